import PyProof.Rows.All
import Wide.All
import OpenK.AllK
import Wide.FinOn
import PyProof.EqLayable
import PyProof.EqAt
import PyProof.EqKinds
import PyProof.TupleCall
import HandS.ForExc
import HandS.Comp
import HandS.Iter
import HandS.Text
import HandS.Walk
import HandS.Wide
import HandS.IsInst
import HandS.Gcd
import HandS.TupAny
import HandS.Zip
import HandS.Rev
import HandS.ExcIs
import PyProof.Conv_int
import HandS.Dict
import PyProof.ReprReads
import PyProof.CallFns
import HandS.Style
import HandS.EndBits
import KE.KRevSl
import HandS.TupLe
import HandS.Conv
import HandS.SetFor
import PySem.Challenge.RW_cushionshots_k02_places_and_ways
set_option Elab.async false
set_option linter.all false
set_option maxRecDepth 100000
set_option maxHeartbeats 4000000
namespace DL
open PySem
/-- what a slot holds: nothing known | frozen data | a list that nobody else holds | the law's well, with a budget of draws | the script | a caught error, at a -/
inductive S where
  | no | va (d : PyData) | own (ds : List PyData) | well (n : Nat) | scr (ns : List Int) | exc (a : Addr)
abbrev DSt := List S
/-- the three numbers of a well that stands for n more draws -/
structure WellOk (n : Nat) (a b c : Int) : Prop where
  a0 : 0 ≤ a
  a1 : a.natAbs < 2 ^ 1100000
  b0 : 0 ≤ b
  b1 : b < 2 ^ 150
  c0 : 0 ≤ c
  c1 : c + n < 2 ^ 64
def sget : DSt → Nat → S
  | [], _ => .no
  | s :: _, 0 => s
  | _ :: r, n + 1 => sget r n
def sset : DSt → Nat → S → DSt
  | [], _, _ => []
  | _ :: r, 0, s => s :: r
  | x :: r, n + 1, s => x :: sset r n s
/-- the slots is forgotten -/
def swipe : DSt → List Nat → DSt
  | sd, [] => sd
  | sd, i :: is => sset (swipe sd is) i .no
/-- the slots is put back from s0 -/
def sback (s0 : DSt) : DSt → List Nat → DSt
  | sd, [] => sd
  | sd, i :: is => sset (sback s0 sd is) i (sget s0 i)
abbrev ME := DSt → (PyData → DSt → Prop) → Prop
abbrev MT := DSt → (Bool → DSt → Prop) → Prop
abbrev MA := DSt → (List PyData → DSt → Prop) → Prop
abbrev MR := DSt → (S → DSt → Prop) → Prop
abbrev MI := DSt → (List PyData → DSt → Prop) → Prop
abbrev MG := PyData → DSt → (DSt → Prop) → Prop
abbrev MGs := List PyData → DSt → (DSt → Prop) → Prop
/-- what is wished of a raise: the class's name, the state -/
abbrev WD := String → DSt → Prop
structure DE where
  nx : DSt → Prop
  rt : S → DSt → Prop
  bk : DSt → Prop := fun _ => False
  ct : DSt → Prop := fun _ => False
abbrev MS := DE → DSt → Prop
/-- a def's promise: no well | with the well as its first argument -/
abbrev PSpec := List PyData → (S → Prop) → (String → Prop) → Prop
abbrev WSpec := Nat → List PyData → (S → Nat → Prop) → Prop
def fz : S → Option PyData
  | .va d => some d
  | .own ds => some (.list ds)
  | _ => none
def mC (d : PyData) : ME := fun sd Q => Q d sd
def mVar (i : Nat) : ME := fun sd Q => match sget sd i with
  | .va d => Q d sd
  | .own ds => Q (.list ds) (sset sd i (.va (.list ds)))
  | _ => False
def mOp2 (f : PyData → PyData → Option PyData) (ma mb : ME) : ME := fun sd Q => ma sd fun a s1 => mb s1 fun b s2 => ∃ r, f a b = some r ∧ Q r s2
def mOp1 (f : PyData → Option PyData) (ma : ME) : ME := fun sd Q => ma sd fun a s1 => ∃ r, f a = some r ∧ Q r s1
def mAnd (ma mb : ME) : ME := fun sd Q => ma sd fun a s1 => ∃ c, a = .bool c ∧ if c = true then mb s1 Q else Q (.bool false) s1
def mOr (ma mb : ME) : ME := fun sd Q => ma sd fun a s1 => ∃ c, a = .bool c ∧ if c = true then Q (.bool true) s1 else mb s1 Q
def mNot (ma : ME) : ME := fun sd Q => ma sd fun a s1 => ∃ c, a = .bool c ∧ Q (.bool (!c)) s1
def mIfE (mt : MT) (ma mb : ME) : ME := fun sd Q => mt sd fun c s1 => if c = true then ma s1 Q else mb s1 Q
/-- a < b < c: f a b, then g b c -/
def mChain (f g : PyData → PyData → Option PyData) (ma mb mc : ME) : ME := fun sd Q => ma sd fun a s1 => mb s1 fun b s2 => ∃ c, f a b = some (.bool c) ∧ if c = true then mc s2 fun d s3 => ∃ r, g b d = some r ∧ Q r s3 else Q (.bool false) s2
def mNil : MA := fun sd Q => Q [] sd
def mCons (me : ME) (ma : MA) : MA := fun sd Q => me sd fun d s1 => ma s1 fun ds s2 => Q (d :: ds) s2
def mTup (ma : MA) : ME := fun sd Q => ma sd fun ds s1 => ds.length ≤ 100000 ∧ Q (.tuple ds) s1
def mLst (ma : MA) : ME := fun sd Q => ma sd fun ds s1 => ds.length ≤ 100000 ∧ Q (.list ds) s1
def mCallB (f : List PyData → Option PyData) (ma : MA) : ME := fun sd Q => ma sd fun ds s1 => ∃ r, f ds = some r ∧ Q r s1
def mDict0 : ME := fun sd Q => Q (.dict []) sd
/-- a slice: parts given or left out -/
def mPart (me : ME) : DSt → (Option Int → DSt → Prop) → Prop := fun sd Q => me sd fun d s1 => ∃ i, d = .int i ∧ Q (some i) s1
def mNoPart : DSt → (Option Int → DSt → Prop) → Prop := fun sd Q => Q none sd
def mSl (f : PyData → Option Int → Option Int → Option PyData) (me : ME) (ml mh : DSt → (Option Int → DSt → Prop) → Prop) : ME :=
  fun sd Q => me sd fun d s1 => ml s1 fun l s2 => mh s2 fun h s3 => ∃ r, f d l h = some r ∧ Q r s3
/-- a call of an own def -/
def mCall (spec : PSpec) (W : WD) (ma : MA) : ME := fun sd Q => ma sd fun ds s1 => spec ds (fun r => ∃ d, fz r = some d ∧ Q d s1) (fun c => W c s1)
/-- .. by keywords: the arguments as they are given, then put into the def's order -/
def mCallK (spec : PSpec) (W : WD) (g : List PyData → List PyData → List PyData) (ma mk : MA) : ME :=
  fun sd Q => ma sd fun ds s1 => mk s1 fun es s2 => spec (g ds es) (fun r => ∃ d, fz r = some d ∧ Q d s2) (fun c => W c s2)
/-- .. with the well in slot i as its first argument -/
def mCallW (spec : WSpec) (i : Nat) (ma : MA) : ME := fun sd Q => (∃ n, sget sd i = .well n) ∧ ma sd fun ds s1 => ∃ n, sget s1 i = .well n ∧ spec n ds fun r n' => ∃ d, fz r = some d ∧ Q d (sset s1 i (.well n'))
/-- len of a list that is still owned -/
def mLenOwn (i : Nat) : ME := fun sd Q => ∃ ds, sget sd i = .own ds ∧ Q (.int (ds.length : Int)) sd
/-- len of the script; an item of it; the well that is made from it -/
def mLenScr (i : Nat) : ME := fun sd Q => ∃ ns, sget sd i = .scr ns ∧ Q (.int (ns.length : Int)) sd
def mT (me : ME) : MT := fun sd Q => me sd fun d s1 => ∃ c, d = .bool c ∧ Q c s1
def mTAnd (t u : MT) : MT := fun sd Q => t sd fun c s1 => if c = true then u s1 Q else Q false s1
def mTOr (t u : MT) : MT := fun sd Q => t sd fun c s1 => if c = true then Q true s1 else u s1 Q
def mTNot (t : MT) : MT := fun sd Q => t sd fun c s1 => Q (!c) s1
def mTYes : MT := fun sd Q => Q true sd
def mrOf (me : ME) : MR := fun sd Q => me sd fun d s1 => Q (.va d) s1
def mrLst (ma : MA) : MR := fun sd Q => ma sd fun ds s1 => ds.length ≤ 100000 ∧ Q (.own ds) s1
def mrCall (spec : PSpec) (W : WD) (ma : MA) : MR := fun sd Q => ma sd fun ds s1 => spec ds (fun r => Q r s1) (fun c => W c s1)
def mgName (i : Nat) : MG := fun d sd Q => Q (sset sd i (.va d))
def mgNil : MGs := fun ds sd Q => ds = [] ∧ Q sd
def mgCons (g : MG) (gs : MGs) : MGs := fun ds sd Q => ∃ d r, ds = d :: r ∧ g d sd fun s1 => gs r s1 Q
def items : PyData → Option (List PyData)
  | .tuple ds => some ds
  | .list ds => some ds
  | _ => none
def mgTup (n : Nat) (gs : MGs) : MG := fun d sd Q => ∃ ds, items d = some ds ∧ ds.length = n ∧ gs ds sd Q
def miSeq (me : ME) : MI := fun sd Q => me sd fun d s1 => ∃ ds, items d = some ds ∧ Q ds s1
def rangeL (lo : Int) (n : Nat) : List PyData := (List.range n).map fun i : Nat => .int (lo + (i : Int))
def miRng1 (ma : MA) : MI := fun sd Q => ma sd fun ds s1 => ∃ j : Int, ds = [.int j] ∧ -(2 ^ 62) ≤ j ∧ j < 2 ^ 62 ∧ Q (rangeL 0 j.toNat) s1
def miRng2 (ma : MA) : MI := fun sd Q => ma sd fun ds s1 => ∃ i j : Int, ds = [.int i, .int j] ∧ (-(2 ^ 62) ≤ i ∧ i < 2 ^ 62 ∧ -(2 ^ 62) ≤ j ∧ j < 2 ^ 62) ∧ Q (rangeL i (j - i).toNat) s1
def signsD (z : Str) : List PyData := z.cps.toList.map fun c => .str ⟨#[c]⟩
def miStr (me : ME) : MI := fun sd Q => me sd fun d s1 => ∃ z, d = .str z ∧ Q (signsD z) s1
def enumL : Nat → List PyData → List PyData
  | _, [] => []
  | k, d :: ds => .tuple [.int (k : Int), d] :: enumL (k + 1) ds
def miEnum (ma : MA) : MI := fun sd Q => ma sd fun ds s1 => ∃ xs, ds = [.list xs] ∧ Q (enumL 0 xs) s1
def zipL : List PyData → List PyData → List PyData
  | x :: xs, y :: ys => .tuple [x, y] :: zipL xs ys
  | _, _ => []
def miZip (ma : MA) : MI := fun sd Q => ma sd fun ds s1 => ∃ xs ys, (ds = [.list xs, .list ys] ∨ ds = [.tuple xs, .tuple ys]) ∧ Q (zipL xs ys) s1
def miRev (me : ME) : MI := fun sd Q => me sd fun d s1 => ∃ ds, items d = some ds ∧ Q ds.reverse s1
def lcL (mg : MG) (mt : MT) (me : ME) (vs : List Nat) (Q : List PyData → DSt → Prop) : List PyData → DSt → List PyData → Prop
  | [], s, acc => Q acc s
  | d :: ds, s, acc => mg d (swipe s vs) fun s1 => mt s1 fun b s2 => if b = true then me s2 fun y s3 => acc.length < 100000 ∧ lcL mg mt me vs Q ds s3 (acc ++ [y]) else lcL mg mt me vs Q ds s2 acc
def unOwn (s : DSt) (vs : List Nat) : Bool := vs.all fun j => match sget s j with
  | .own _ => false
  | .well _ => false
  | _ => true
def mLc (mi : MI) (mg : MG) (mt : MT) (me : ME) (vs : List Nat) : ME := fun sd Q => mi sd fun ds s => unOwn s vs = true ∧ lcL mg mt me vs (fun out s' => Q (.list out) (sback s s' vs)) ds s []
def mrLc (mi : MI) (mg : MG) (mt : MT) (me : ME) (vs : List Nat) : MR := fun sd Q => mi sd fun ds s => unOwn s vs = true ∧ lcL mg mt me vs (fun out s' => Q (.own out) (sback s s' vs)) ds s []
def mNext : MS := fun D sd => D.nx sd
def mBreak : MS := fun D sd => D.bk sd
def mCont : MS := fun D sd => D.ct sd
def mSeq (a b : MS) : MS := fun D sd => a { D with nx := b D } sd
def mAsg (me : ME) (mg : MG) : MS := fun D sd => me sd fun d s1 => mg d s1 D.nx
def mAsgR (i : Nat) (mr : MR) : MS := fun D sd => mr sd fun r s1 => D.nx (sset s1 i r)
/-- a, b = x, y: the values in their order, then the slots -/
def mrs : List MR → DSt → (List S → DSt → Prop) → Prop
  | [], sd, Q => Q [] sd
  | m :: ms, sd, Q => m sd fun r s1 => mrs ms s1 fun rs s2 => Q (r :: rs) s2
def ssets : DSt → List Nat → List S → DSt
  | sd, i :: is, r :: rs => ssets (sset sd i r) is rs
  | sd, _, _ => sd
def mAsgM (is : List Nat) (ms : List MR) : MS := fun D sd => mrs ms sd fun rs s1 => rs.length = is.length ∧ D.nx (ssets s1 is rs)
def mIf (t : MT) (a b : MS) : MS := fun D sd => t sd fun c s1 => if c = true then a D s1 else b D s1
def mRet (mr : MR) : MS := fun D sd => mr sd D.rt
def mRetOwn (i : Nat) : MR := fun sd Q => match sget sd i with
  | .own ds => Q (.own ds) sd
  | .well n => Q (.well n) sd
  | _ => False
def mRetN : MS := fun D sd => D.rt (.va .none) sd
def mDrop (me : ME) : MS := fun D sd => me sd fun _ s1 => D.nx s1
def mApp (i : Nat) (me : ME) : MS := fun D sd => (∃ ds, sget sd i = .own ds) ∧ me sd fun d s1 => ∃ ds, sget s1 i = .own ds ∧ ds.length < 100000 ∧ D.nx (sset s1 i (.own (ds ++ [d])))
def forL (mg : MG) (body : MS) (D : DE) : List PyData → DSt → Prop
  | [], s => D.nx s
  | d :: ds, s => mg d s fun s1 => body { D with nx := forL mg body D ds, ct := forL mg body D ds, bk := D.nx } s1
def mFor (mi : MI) (mg : MG) (body : MS) : MS := fun D sd => mi sd fun ds s => forL mg body D ds s
def whileN (t : MT) (body : MS) (D : DE) : Nat → DSt → Prop
  | 0, _ => False
  | n + 1, s => t s fun b s1 => if b = true then body { D with nx := whileN t body D n, ct := whileN t body D n, bk := D.nx } s1 else D.nx s1
def mWhile (t : MT) (body : MS) : MS := fun D sd => ∃ n, whileN t body D n sd
def mRaise (c : String) (W : WD) : MS := fun _ sd => W c sd
def small (a b : Int) : Bool := decide (a.natAbs.log2 + b.natAbs.log2 < 1000000)
def opAdd : PyData → PyData → Option PyData
  | .int a, .int b => some (.int (a + b))
  | .str a, .str b => if a.length + b.length ≤ 100000 then some (.str (a ++ b)) else none
  | .list a, .list b => if a.length + b.length ≤ 100000 then some (.list (a ++ b)) else none
  | .tuple a, .tuple b => if a.length + b.length ≤ 100000 then some (.tuple (a ++ b)) else none
  | _, _ => none
def opSub : PyData → PyData → Option PyData
  | .int a, .int b => some (.int (a - b))
  | _, _ => none
def opMul : PyData → PyData → Option PyData
  | .int a, .int b => if small a b = true then some (.int (a * b)) else none
  | .list a, .int k => if 0 ≤ k ∧ k ≤ 1000 ∧ a.length ≤ 1000 then some (.list (List.replicate k.toNat a).flatten) else none
  | _, _ => none
def opMod : PyData → PyData → Option PyData
  | .int a, .int b => if 0 < b then some (.int (a % b)) else none
  | _, _ => none
def opFdiv : PyData → PyData → Option PyData
  | .int a, .int b => if 0 < b ∧ b.natAbs.log2 < 9000 then some (.int (a / b)) else none
  | _, _ => none
def cmpI (p : Int → Int → Bool) : PyData → PyData → Option PyData
  | .int a, .int b => some (.bool (p a b))
  | _, _ => none
def opLt := cmpI fun a b => decide (a < b)
def opLe := cmpI fun a b => decide (a ≤ b)
def opGt := cmpI fun a b => decide (b < a)
def opGe := cmpI fun a b => decide (b ≤ a)
def strs? : PyData → PyData → Option (Str × Str)
  | .str x, .str y => some (x, y)
  | _, _ => none
def opEq (a b : PyData) : Option PyData := if (SeqAt.shaped a && SeqAt.shaped b) = true then some (.bool (PyData.eqv a b)) else (strs? a b).map fun p => .bool (decide (p.1 = p.2))
def opNe (a b : PyData) : Option PyData := if (SeqAt.shaped a && SeqAt.shaped b) = true then some (.bool (!PyData.eqv a b)) else (strs? a b).map fun p => .bool (!decide (p.1 = p.2))
def isN : PyData → Bool
  | .none => true
  | _ => false
/-- x is None, x is not None -/
def opIsN2 (a : PyData) : PyData → Option PyData
  | .none => some (.bool (isN a))
  | _ => none
def opNotN2 (a : PyData) : PyData → Option PyData
  | .none => some (.bool (!isN a))
  | _ => none
/-- x is True, where x is a bool -/
def opIsB : PyData → PyData → Option PyData
  | .bool a, .bool b => some (.bool (decide (a = b)))
  | _, _ => none
def opNotB : PyData → PyData → Option PyData
  | .bool a, .bool b => some (.bool (!decide (a = b)))
  | _, _ => none
def opPow : PyData → PyData → Option PyData
  | .int a, .int b => if 0 ≤ b ∧ b ≤ 100 ∧ a.natAbs < 2 ^ 10000 then some (.int (a ^ b.toNat)) else none
  | _, _ => none
def flatD : PyData → Bool
  | .none | .bool _ | .int _ | .str _ => true
  | _ => false
/-- x in a list or a tuple of flat things -/
def opInS (neg : Bool) (a b : PyData) : Option PyData := (items b).bind fun ds => if (flatD a && ds.all flatD) = true then some (.bool (if neg then !ds.any (fun d => PyData.eqv d a) else ds.any fun d => PyData.eqv d a)) else none
/-- .. or one sign in a text -/
def sign? (z : Str) : Option Nat := match z.cps.toList with
  | [c] => some c
  | _ => none
theorem sign_of {z : Str} {c : Nat} (h : sign? z = some c) : z = ⟨#[c]⟩ := by
  unfold sign? at h
  split at h
  · rename_i c' e
    cases h
    obtain ⟨⟨l⟩⟩ := z
    have e' : l = [c] := e
    rw [e']
  · cases h
def opIn : PyData → PyData → Option PyData
  | .str c, .str z => (sign? c).map fun c => .bool (decide (c ∈ z.cps.toList))
  | a, b => opInS false a b
def opNotIn : PyData → PyData → Option PyData
  | .str c, .str z => (sign? c).map fun c => .bool (!decide (c ∈ z.cps.toList))
  | a, b => opInS true a b
def opNeg : PyData → Option PyData
  | .int a => some (.int (-a))
  | _ => none
def ixN (n : Nat) (i : Int) : Option Nat := if 0 ≤ i then (if i < n then some i.toNat else none) else if -(n : Int) ≤ i then some (i + n).toNat else none
def atI {α : Type} (xs : List α) (i : Int) : Option α := (ixN xs.length i).bind fun j => xs[j]?
def opIx : PyData → PyData → Option PyData
  | .list xs, .int i => atI xs i
  | .tuple xs, .int i => atI xs i
  | .str z, .int i => if z.length ≤ 100000 then (atI z.cps.toList i).map fun c => .str ⟨#[c]⟩ else none
  | _, _ => none
def sIx (n d : Nat) : Option Int → Nat
  | .none => d
  | .some v => if v < 0 then (v + (n : Int)).toNat else min v.toNat n
def cutL {α : Type} (xs : List α) (lo hi : Option Int) : List α := (xs.drop (sIx xs.length 0 lo)).take (sIx xs.length xs.length hi - sIx xs.length 0 lo)
def opSl (d : PyData) (lo hi : Option Int) : Option PyData := match d with
  | .list xs => some (.list (cutL xs lo hi))
  | .tuple xs => some (.tuple (cutL xs lo hi))
  | .str z => if z.length ≤ 100000 then some (.str ⟨(cutL z.cps.toList lo hi).toArray⟩) else none
  | _ => none
/-- x[::-1] -/
def opRev : PyData → Option PyData
  | .list xs => some (.list xs.reverse)
  | .tuple xs => some (.tuple xs.reverse)
  | _ => none
def bLen : List PyData → Option PyData
  | [.list xs] => some (.int (xs.length : Int))
  | [.tuple xs] => some (.int (xs.length : Int))
  | [.str z] => if z.length ≤ 100000 then some (.int (z.length : Int)) else none
  | _ => none
def bAbs : List PyData → Option PyData
  | [.int i] => some (.int (if i < 0 then -i else i))
  | _ => none
def bMax : List PyData → Option PyData
  | [.int i, .int j] => some (.int (if j > i then j else i))
  | _ => none
def bMin : List PyData → Option PyData
  | [.int i, .int j] => some (.int (if j < i then j else i))
  | _ => none
def bInt : List PyData → Option PyData
  | [.int i] => some (.int i)
  | _ => none
def bGcd : List PyData → Option PyData
  | [.int i, .int j] => some (.int ((Nat.gcd i.natAbs j.natAbs : Nat) : Int))
  | _ => none
def bools : List PyData → Option (List Bool)
  | [] => some []
  | .bool b :: r => (bools r).map (b :: ·)
  | _ :: _ => none
def bAll : List PyData → Option PyData
  | [.list xs] => (bools xs).map fun bs => .bool (bs.all id)
  | _ => none
def bAny : List PyData → Option PyData
  | [.list xs] => (bools xs).map fun bs => .bool (bs.any id)
  | _ => none
def bList : List PyData → Option PyData
  | [.list xs] => some (.list xs)
  | [.tuple xs] => some (.list xs)
  | _ => none
/-- the kinds that isinstance asks for -/
inductive Ki where | kInt | kBool | kStr | kTup | kLst | kDict
  deriving DecidableEq
def isK : Ki → PyData → Bool
  | .kInt, .int _ => true
  | .kInt, .bool _ => true
  | .kBool, .bool _ => true
  | .kStr, .str _ => true
  | .kTup, .tuple _ => true
  | .kLst, .list _ => true
  | .kDict, .dict _ => true
  | _, _ => false
def bIsi (ks : List Ki) : PyData → Option PyData := fun d => some (.bool (ks.any fun k => isK k d))
def slots0 (n : Nat) (ds : List PyData) : DSt := ds.map S.va ++ List.replicate (n - ds.length) .no
def endP (Q : S → Prop) : DE := { nx := fun _ => Q (.va .none), rt := fun r _ => Q r }
def slotsW (N n : Nat) (ds : List PyData) : DSt := .well n :: slots0 (N - 1) ds
def endW (Q : S → Nat → Prop) : DE := { nx := fun sd => ∃ n, sget sd 0 = .well n ∧ Q (.va .none) n, rt := fun r sd => ∃ n, sget sd 0 = .well n ∧ Q r n }
def endL : DE := { nx := fun _ => False, rt := fun r _ => r = .va (.bool true) }
/-- the well that is made from the script in slot i -/
def mrWell (i : Nat) (me : ME) : MR := fun sd Q => me sd fun d s1 => ∃ ns k, sget s1 i = .scr ns ∧ d = .int k ∧ 0 ≤ k ∧ k < 2 ^ 20 ∧ Q (.well (2 ^ 60)) s1
def wF : WD := fun _ _ => False
end DL
namespace DL
open PySem PySem.Spec PyProof.Rows L2
def keyD : Key → PyData
  | .inl i => .int i
  | .inr x => .str x
mutual
inductive Rp (K : PySem.W.Frag) (F : Hp) : V → PyData → Prop
  | non : Rp K F .non .none
  | bl (b : Bool) : Rp K F (.bl b) (.bool b)
  | int (i : Int) : Rp K F (.int i) (.int i)
  | str (x : Str) : Rp K F (.str x) (.str x)
  | lst {a : Addr} {xs : List V} {ds : List PyData} : F a = some (.lst xs) → RpA K F xs ds → Rp K F (.ref a) (.list ds)
  | tup {a : Addr} {xs : List V} {ds : List PyData} : SqT K F a xs → RpA K F xs ds → Rp K F (.ref a) (.tuple ds)
  | dct {a : Addr} {kvs : List (Key × V)} {es : List (PyData × PyData)} : F a = some (.dK kvs) → RpD K F kvs es → Rp K F (.ref a) (.dict es)
inductive RpA (K : PySem.W.Frag) (F : Hp) : List V → List PyData → Prop
  | nil : RpA K F [] []
  | cons {v : V} {vs : List V} {d : PyData} {ds : List PyData} : Rp K F v d → RpA K F vs ds → RpA K F (v :: vs) (d :: ds)
inductive RpD (K : PySem.W.Frag) (F : Hp) : List (Key × V) → List (PyData × PyData) → Prop
  | nil : RpD K F [] []
  | cons {k : Key} {v : V} {kvs : List (Key × V)} {d : PyData} {es : List (PyData × PyData)} : Rp K F v d → RpD K F kvs es → RpD K F ((k, v) :: kvs) ((keyD k, d) :: es)
end
theorem same_rd {H H' : Hp} {a : Addr} {u : HO} (e : Same H H') (h : Rd H a u) : Rd H' a u := by
  rcases h with h | ⟨o, h⟩
  · exact .inl (e _ _ h)
  · exact .inr ⟨o, e _ _ h⟩
theorem same_t {K : PySem.W.Frag} {H H' : Hp} {a : Addr} {xs : List V} (e : Same H H') (h : SqT K H a xs) : SqT K H' a xs := by
  rcases h with (h | ⟨o, h⟩) | h
  · exact .inl (.inl (e _ _ h))
  · exact .inl (.inr ⟨o, e _ _ h⟩)
  · exact .inr h
section
variable {K : PySem.W.Frag} {F F' H H' H1 : Hp} {v : V} {vs : List V} {d : PyData} {ds : List PyData}
mutual
theorem Rp.mono (e : Same F F') : ∀ {d : PyData} {v : V}, Rp K F v d → Rp K F' v d
  | .none, _, .non => .non
  | .bool _, _, .bl b => .bl b
  | .int _, _, .int i => .int i
  | .str _, _, .str x => .str x
  | .list _, _, .lst h r => .lst (e _ _ h) (RpA.mono e r)
  | .tuple _, _, .tup h r => .tup (same_t e h) (RpA.mono e r)
  | .dict _, _, .dct h r => .dct (e _ _ h) (RpD.mono e r)
theorem RpA.mono (e : Same F F') : ∀ {ds : List PyData} {vs : List V}, RpA K F vs ds → RpA K F' vs ds
  | [], _, .nil => .nil
  | _ :: _, _, .cons h r => .cons (Rp.mono e h) (RpA.mono e r)
theorem RpD.mono (e : Same F F') : ∀ {es : List (PyData × PyData)} {kvs : List (Key × V)}, RpD K F kvs es → RpD K F' kvs es
  | [], _, .nil => .nil
  | _ :: _, _, .cons h r => .cons (Rp.mono e h) (RpD.mono e r)
end
mutual
theorem Rp.dp (e : Same F H) : ∀ {d : PyData} {v : V}, d.canLay0 = true → Rp K F v d → Dp K H v d
  | .none, _, _, .non => .non
  | .bool _, _, _, .bl b => .bl b
  | .int _, _, _, .int i => .int i
  | .str _, _, _, .str x => .str x
  | .list _, _, c, .lst h r => .lst (.inl (.inl (e _ _ h))) (RpA.dp e (by simpa [PyData.canLay0] using c) r)
  | .tuple _, _, c, .tup h r => .tup (same_t e h) (RpA.dp e (by simpa [PyData.canLay0] using c) r)
theorem RpA.dp (e : Same F H) : ∀ {ds : List PyData} {vs : List V}, PyData.canLayAll0 ds = true → RpA K F vs ds → DpAll K H vs ds
  | [], _, _, .nil => .nil
  | _ :: _, _, c, .cons h r => .cons (Rp.dp e (by have := c; simp only [PyData.canLayAll0, Bool.and_eq_true] at this; exact this.1) h) (RpA.dp e (by have := c; simp only [PyData.canLayAll0, Bool.and_eq_true] at this; exact this.2) r)
end
theorem RpA.length : ∀ {vs : List V} {ds : List PyData}, RpA K F vs ds → vs.length = ds.length
  | _, _, .nil => rfl
  | _, _, .cons _ r => by simp [RpA.length r]
theorem RpA.get : ∀ {vs : List V} {ds : List PyData} {i : Nat} {d : PyData}, RpA K F vs ds → ds[i]? = some d → ∃ v, vs[i]? = some v ∧ Rp K F v d
  | _, _, _, _, .nil, h => by simp at h
  | _, _, 0, _, .cons h _, e => by simp at e; subst e; exact ⟨_, rfl, h⟩
  | _, _, i + 1, _, .cons _ r, e => by
    obtain ⟨v, h1, h2⟩ := RpA.get (i := i) r (by simpa using e)
    exact ⟨v, by simpa using h1, h2⟩
theorem RpA.append : ∀ {vs ws : List V} {ds es : List PyData}, RpA K F vs ds → RpA K F ws es → RpA K F (vs ++ ws) (ds ++ es)
  | _, _, _, _, .nil, s => s
  | _, _, _, _, .cons h r, s => .cons h (RpA.append r s)
theorem RpA.take : ∀ {vs : List V} {ds : List PyData} (n : Nat), RpA K F vs ds → RpA K F (vs.take n) (ds.take n)
  | _, _, 0, _ => .nil
  | _, _, _ + 1, .nil => .nil
  | _, _, n + 1, .cons h r => .cons h (RpA.take n r)
theorem RpA.drop : ∀ {vs : List V} {ds : List PyData} (n : Nat), RpA K F vs ds → RpA K F (vs.drop n) (ds.drop n)
  | _, _, 0, r => r
  | _, _, _ + 1, .nil => .nil
  | _, _, n + 1, .cons _ r => RpA.drop n r
theorem RpA.snoc (h : RpA K F vs ds) (q : Rp K F v d) : RpA K F (vs ++ [v]) (ds ++ [d]) := h.append (.cons q .nil)
theorem RpA.reverse : ∀ {vs : List V} {ds : List PyData}, RpA K F vs ds → RpA K F vs.reverse ds.reverse
  | _, _, .nil => .nil
  | _, _, .cons h r => by simp only [List.reverse_cons]; exact (RpA.reverse r).snoc h
end
def gv (σ : L2.St) (i : Nat) : Option V := (σ[i]?).join
theorem gv_some {σ : L2.St} {i : Nat} {v : V} : gv σ i = some v ↔ σ[i]? = some (some v) := by
  unfold gv
  cases h : σ[i]? with
  | none => simp
  | some x => simp
theorem gv_set {σ : L2.St} {i : Nat} {x : Option V} (h : i < σ.length) : gv (σ.set i x) i = x := by
  unfold gv; rw [List.getElem?_set_self h]; rfl
theorem gv_set_ne {σ : L2.St} {i j : Nat} {x : Option V} (h : j ≠ i) : gv (σ.set i x) j = gv σ j := by
  unfold gv; rw [List.getElem?_set_ne (Ne.symm h)]
theorem sset_length : ∀ {sd : DSt} {i : Nat} {s : S}, (sset sd i s).length = sd.length
  | [], _, _ => rfl
  | _ :: _, 0, _ => rfl
  | _ :: r, i + 1, s => by simp [sset, sset_length]
theorem sget_sset : ∀ {sd : DSt} {i : Nat} {s : S}, i < sd.length → sget (sset sd i s) i = s
  | [], _, _, h => by simp at h
  | _ :: _, 0, _, _ => rfl
  | _ :: r, i + 1, s, h => by simp only [sset, sget]; exact sget_sset (by simpa using h)
theorem sget_sset_ne : ∀ {sd : DSt} {i j : Nat} {s : S}, j ≠ i → sget (sset sd i s) j = sget sd j
  | [], _, _, _, _ => rfl
  | _ :: _, 0, 0, _, h => absurd rfl h
  | _ :: _, 0, j + 1, _, _ => rfl
  | _ :: _, i + 1, 0, _, _ => rfl
  | _ :: r, i + 1, j + 1, s, h => by simp only [sset, sget]; exact sget_sset_ne (by omega)
theorem sget_out : ∀ {sd : DSt} {i : Nat}, sd.length ≤ i → sget sd i = .no
  | [], _, _ => rfl
  | _ :: _, 0, h => by simp at h
  | _ :: r, i + 1, h => by simp only [sget]; exact sget_out (by simpa using h)
/-- a def's entry: the frozen heap, the heap, the addresses that were handed over to be changed -/
structure Ct where
  F0 : Hp
  H0 : Hp
  B : Addr → Prop
  isW : Bool
def SlotOk (K : PySem.W.Frag) (C : Ct) (F H : Hp) (x : Option V) : S → Prop
  | .no => True
  | .va d => ∃ v, x = some v ∧ Rp K F v d
  | .own ds => ∃ p vs, x = some (.ref p) ∧ H p = some (.lst vs) ∧ F p = none ∧ C.H0 p = none ∧ RpA K F vs ds
  | .scr ns => ∃ p, x = some (.ref p) ∧ SqL K F p (ns.map V.int)
  | .exc a => x = some (.ref a)
  | .well n => ∃ p a b c, x = some (.ref p) ∧ H p = some (.lst [.int a, .int b, .int c]) ∧ F p = none ∧ ((C.isW = true ∧ C.B p) ∨ (C.isW = false ∧ C.H0 p = none)) ∧ WellOk n a b c
def isOwn : S → Bool
  | .own _ => true
  | .well _ => true
  | _ => false
def Owned (σ : L2.St) (sd : DSt) (a : Addr) : Prop := ∃ i, isOwn (sget sd i) = true ∧ gv σ i = some (.ref a)
structure Rs (K : PySem.W.Frag) (C : Ct) (F H : Hp) (σ : L2.St) (sd : DSt) : Prop where
  len : σ.length = sd.length
  grow : Same C.F0 F
  ext : Same F H
  new : ∀ a o, F a = some o → C.F0 a = some o ∨ C.H0 a = none
  keep : ∀ a o, C.H0 a = some o → ¬ C.B a → H a = some o
  still : ∀ a, H a = none → C.H0 a = none
  slot : ∀ i, SlotOk K C F H (gv σ i) (sget sd i)
  sep : ∀ i j p, i ≠ j → isOwn (sget sd i) = true → isOwn (sget sd j) = true → gv σ i = some (.ref p) → gv σ j ≠ some (.ref p)
/-- what an expression does to the state -/
structure Stp (σ : L2.St) (sd : DSt) (F H F' H' : Hp) (sd' : DSt) : Prop where
  fr : Same F F'
  kp : ∀ a o, H a = some o → ¬ Owned σ sd a → H' a = some o
  ow : ∀ a, Owned σ sd' a → Owned σ sd a
  nw : ∀ a o, F' a = some o → F a = some o ∨ H a = none ∨ Owned σ sd a
  st : ∀ a, H' a = none → H a = none
section
variable {K : PySem.W.Frag} {C : Ct} {F F1 F2 F' H H1 H2 H' : Hp} {σ : L2.St} {sd sd1 sd2 sd' : DSt} {p : Addr} {o : HO}
theorem Stp.refl : Stp σ sd F H F H sd := ⟨Same.refl _, fun _ _ h _ => h, fun _ h => h, fun _ _ h => .inl h, fun _ h => h⟩
theorem Stp.trans (a : Stp σ sd F H F1 H1 sd1) (b : Stp σ sd1 F1 H1 F2 H2 sd2) : Stp σ sd F H F2 H2 sd2 where
  fr := a.fr.trans b.fr
  kp := fun x o h n => b.kp x o (a.kp x o h n) fun z => n (a.ow x z)
  ow := fun x h => a.ow x (b.ow x h)
  nw := fun x o h => by
    rcases b.nw x o h with h | h | h
    · exact a.nw x o h
    · exact .inr (.inl (a.st x h))
    · exact .inr (.inr (a.ow x h))
  st := fun x h => a.st x (b.st x h)
/-- nothing, or one new object, known to all -/
inductive Al (F H : Hp) : Hp → Hp → Prop
  | id : Al F H F H
  | new {p : Addr} {o : HO} (h : H p = none) : Al F H (upd F p o) (upd H p o)
theorem same_new (h : H p = none) : Same H (upd H p o) := fun b x e => by
  rw [upd_ne (ne_of_none e h)]; exact e
theorem SlotOk.grow {x : Option V} {s : S} (e : Same F F') (k : ∀ q o, isOwn s = true → x = some (.ref q) → H q = some o → F q = none → H' q = some o ∧ F' q = none) (h : SlotOk K C F H x s) : SlotOk K C F' H' x s := by
  cases s with
  | no => trivial
  | va d => obtain ⟨v, e1, r⟩ := h; exact ⟨v, e1, r.mono e⟩
  | own ds =>
    obtain ⟨q, vs, e1, e2, e3, e4, r⟩ := h
    obtain ⟨k1, k2⟩ := k q _ rfl e1 e2 e3
    exact ⟨q, vs, e1, k1, k2, e4, r.mono e⟩
  | scr ns => obtain ⟨q, e1, e2⟩ := h; exact ⟨q, e1, e.seq e2⟩
  | exc a => exact h
  | well n =>
    obtain ⟨q, a, b, c, e1, e2, e3, e4, r⟩ := h
    obtain ⟨k1, k2⟩ := k q _ rfl e1 e2 e3
    exact ⟨q, a, b, c, e1, k1, k2, e4, r⟩
theorem Rs.free (R : Rs K C F H σ sd) (h : H p = none) : F p = none := by
  cases e : F p with
  | none => rfl
  | some x => rw [R.ext _ _ e] at h; cases h
theorem Rs.alloc (R : Rs K C F H σ sd) (h : H p = none) : Rs K C (upd F p o) (upd H p o) σ sd where
  len := R.len
  grow := R.grow.trans (same_new (R.free h))
  ext := fun a x e => by
    by_cases z : a = p
    · subst z; rw [upd_same] at e ⊢; exact e
    · rw [upd_ne z] at e ⊢; exact R.ext a x e
  new := fun a x e => by
    by_cases z : a = p
    · subst z; exact .inr (R.still a h)
    · rw [upd_ne z] at e; exact R.new a x e
  keep := fun a x e n => same_new h a x (R.keep a x e n)
  still := fun a e => by
    by_cases z : a = p
    · subst z; exact R.still a h
    · rw [upd_ne z] at e; exact R.still a e
  slot := fun i => (R.slot i).grow (same_new (R.free h)) fun q x _ _ e n => ⟨same_new h q x e, by rw [upd_ne (ne_of_none e h)]; exact n⟩
  sep := R.sep
/-- a new object that nobody will look at -/
theorem Rs.allocH (R : Rs K C F H σ sd) (h : H p = none) : Rs K C F (upd H p o) σ sd where
  len := R.len
  grow := R.grow
  ext := fun a x e => same_new h a x (R.ext a x e)
  new := R.new
  keep := fun a x e n => same_new h a x (R.keep a x e n)
  still := fun a e => by
    by_cases z : a = p
    · subst z; exact R.still a h
    · rw [upd_ne z] at e; exact R.still a e
  slot := fun i => (R.slot i).grow (Same.refl _) fun q x _ _ e n => ⟨same_new h q x e, n⟩
  sep := R.sep
theorem Rs.al (R : Rs K C F H σ sd) (a : Al F H F' H') : Rs K C F' H' σ sd := by
  cases a with
  | id => exact R
  | new h => exact R.alloc h
theorem Stp.al (R : Rs K C F H σ sd) (a : Al F H F' H') : Stp σ sd F H F' H' sd := by
  cases a with
  | id => exact .refl
  | @new p o h =>
    refine ⟨same_new (R.free h), fun x o e _ => same_new h x o e, fun _ h => h, fun x o e => ?_, fun x e => ?_⟩
    · by_cases z : x = p
      · subst z; exact .inr (.inl h)
      · rw [upd_ne z] at e; exact .inl e
    · by_cases z : x = p
      · subst z; exact h
      · rw [upd_ne z] at e; exact e
theorem Rs.lt_of_own (R : Rs K C F H σ sd) {i : Nat} (h : sget sd i ≠ .no) : i < sd.length := by
  apply Classical.byContradiction
  intro z
  exact h (sget_out (by omega))
/-- a slot gets frozen data -/
theorem Rs.setva (R : Rs K C F H σ sd) {i : Nat} {v : V} {d : PyData} (r : Rp K F v d) : Rs K C F H (σ.set i (some v)) (sset sd i (.va d)) where
  len := by rw [List.length_set, sset_length]; exact R.len
  grow := R.grow
  ext := R.ext
  new := R.new
  keep := R.keep
  still := R.still
  slot := fun j => by
    by_cases hj : j = i
    · subst hj
      by_cases hl : j < sd.length
      · rw [sget_sset hl, gv_set (by rw [R.len]; exact hl)]
        exact ⟨v, rfl, r⟩
      · rw [sget_out (by rw [sset_length]; omega)]; trivial
    · rw [sget_sset_ne hj, gv_set_ne hj]; exact R.slot j
  sep := fun j k q hjk o1 o2 e1 => by
    have n1 : j ≠ i := fun z => by
      subst z
      by_cases hl : j < sd.length
      · rw [sget_sset hl] at o1; cases o1
      · rw [sget_out (by rw [sset_length]; omega)] at o1; cases o1
    have n2 : k ≠ i := fun z => by
      subst z
      by_cases hl : k < sd.length
      · rw [sget_sset hl] at o2; cases o2
      · rw [sget_out (by rw [sset_length]; omega)] at o2; cases o2
    rw [sget_sset_ne n1] at o1
    rw [sget_sset_ne n2] at o2
    rw [gv_set_ne n1] at e1
    rw [gv_set_ne n2]
    exact R.sep j k q hjk o1 o2 e1
/-- a slot is forgotten -/
theorem Rs.setno (R : Rs K C F H σ sd) {i : Nat} {x : Option V} : Rs K C F H (σ.set i x) (sset sd i .no) where
  len := by rw [List.length_set, sset_length]; exact R.len
  grow := R.grow
  ext := R.ext
  new := R.new
  keep := R.keep
  still := R.still
  slot := fun j => by
    by_cases hj : j = i
    · subst hj
      by_cases hl : j < sd.length
      · rw [sget_sset hl]; trivial
      · rw [sget_out (by rw [sset_length]; omega)]; trivial
    · rw [sget_sset_ne hj, gv_set_ne hj]; exact R.slot j
  sep := fun j k q hjk o1 o2 e1 => by
    have n1 : j ≠ i := fun z => by
      subst z
      by_cases hl : j < sd.length
      · rw [sget_sset hl] at o1; cases o1
      · rw [sget_out (by rw [sset_length]; omega)] at o1; cases o1
    have n2 : k ≠ i := fun z => by
      subst z
      by_cases hl : k < sd.length
      · rw [sget_sset hl] at o2; cases o2
      · rw [sget_out (by rw [sset_length]; omega)] at o2; cases o2
    rw [sget_sset_ne n1] at o1
    rw [sget_sset_ne n2] at o2
    rw [gv_set_ne n1] at e1
    rw [gv_set_ne n2]
    exact R.sep j k q hjk o1 o2 e1
/-- a result: frozen, or a list (a well) that nobody else holds -/
def RvOk (K : PySem.W.Frag) (C : Ct) (F H : Hp) (v : V) : S → Prop := SlotOk K C F H (some v)
/-- .. and not one of the slots' -/
def Fre (σ : L2.St) (sd : DSt) (v : V) (r : S) : Prop := isOwn r = true → ∀ q, v = .ref q → ¬ Owned σ sd q
theorem Rs.setr (R : Rs K C F H σ sd) {i : Nat} {v : V} {r : S} (h : RvOk K C F H v r) (n : Fre σ sd v r) : Rs K C F H (σ.set i (some v)) (sset sd i r) where
  len := by rw [List.length_set, sset_length]; exact R.len
  grow := R.grow
  ext := R.ext
  new := R.new
  keep := R.keep
  still := R.still
  slot := fun j => by
    by_cases hj : j = i
    · subst hj
      by_cases hl : j < sd.length
      · rw [sget_sset hl, gv_set (by rw [R.len]; exact hl)]
        exact h
      · rw [sget_out (by rw [sset_length]; omega)]; trivial
    · rw [sget_sset_ne hj, gv_set_ne hj]; exact R.slot j
  sep := fun j k q hjk o1 o2 e1 e2 => by
    have at_i : ∀ m, m = i → isOwn (sget (sset sd i r) m) = true → gv (σ.set i (some v)) m = some (.ref q) → isOwn r = true ∧ v = .ref q := fun m z o e => by
      subst z
      by_cases hl : m < sd.length
      · rw [sget_sset hl] at o
        rw [gv_set (by rw [R.len]; exact hl)] at e
        exact ⟨o, Option.some.inj e⟩
      · rw [sget_out (by rw [sset_length]; omega)] at o; cases o
    by_cases hj : j = i
    · obtain ⟨a1, a2⟩ := at_i j hj o1 e1
      have hk : k ≠ i := fun z => hjk (hj.trans z.symm)
      rw [sget_sset_ne hk] at o2
      rw [gv_set_ne hk] at e2
      exact n a1 q a2 ⟨k, o2, e2⟩
    · rw [sget_sset_ne hj] at o1
      rw [gv_set_ne hj] at e1
      by_cases hk : k = i
      · obtain ⟨a1, a2⟩ := at_i k hk o2 e2
        exact n a1 q a2 ⟨j, o1, e1⟩
      · rw [sget_sset_ne hk] at o2
        rw [gv_set_ne hk] at e2
        exact R.sep j k q hjk o1 o2 e1 e2
/-- an owned list is handed to all -/
theorem Rs.freeze (R : Rs K C F H σ sd) {i : Nat} {ds : List PyData} (h : sget sd i = .own ds) :
    ∃ v F', gv σ i = some v ∧ Rs K C F' H σ (sset sd i (.va (.list ds))) ∧ Stp σ sd F H F' H (sset sd i (.va (.list ds))) ∧ Rp K F' v (.list ds) := by
  have hi := R.slot i
  rw [h] at hi
  obtain ⟨p, vs, e1, e2, e3, e4, r⟩ := hi
  have hl : i < sd.length := R.lt_of_own (by rw [h]; intro z; cases z)
  have sF : Same F (upd F p (.lst vs)) := same_new e3
  have rp : Rp K (upd F p (.lst vs)) (.ref p) (.list ds) := .lst upd_same (r.mono sF)
  have own_i : Owned σ sd p := ⟨i, by rw [h]; rfl, e1⟩
  refine ⟨.ref p, upd F p (.lst vs), e1, ?_, ?_, rp⟩
  · refine ⟨by rw [sset_length]; exact R.len, R.grow.trans sF, fun a x e => ?_, fun a x e => ?_, R.keep, R.still, fun j => ?_, fun j k q hjk o1 o2 z1 => ?_⟩
    · by_cases z : a = p
      · subst z; rw [upd_same] at e; cases e; exact e2
      · rw [upd_ne z] at e; exact R.ext a x e
    · by_cases z : a = p
      · subst z; exact .inr e4
      · rw [upd_ne z] at e; exact R.new a x e
    · by_cases hj : j = i
      · subst hj; rw [sget_sset hl, e1]; exact ⟨_, rfl, rp⟩
      · rw [sget_sset_ne hj]
        refine (R.slot j).grow sF fun q x ho eq eh en => ⟨eh, ?_⟩
        have : q ≠ p := fun z => by
          subst z
          exact R.sep i j q (Ne.symm hj) (by rw [h]; rfl) ho e1 eq
        rw [upd_ne this]; exact en
    · have n1 : j ≠ i := fun z => by subst z; rw [sget_sset hl] at o1; cases o1
      have n2 : k ≠ i := fun z => by subst z; rw [sget_sset hl] at o2; cases o2
      rw [sget_sset_ne n1] at o1
      rw [sget_sset_ne n2] at o2
      exact R.sep j k q hjk o1 o2 z1
  · refine ⟨sF, fun a x e _ => e, fun a z => ?_, fun a x e => ?_, fun a e => e⟩
    · obtain ⟨j, o, e⟩ := z
      have n1 : j ≠ i := fun z => by subst z; rw [sget_sset hl] at o; cases o
      rw [sget_sset_ne n1] at o
      exact ⟨j, o, e⟩
    · by_cases z : a = p
      · subst z; exact .inr (.inr own_i)
      · rw [upd_ne z] at e; exact .inl e
end
section
variable (K : PySem.W.Frag) (C : Ct)
def tD (m : ME) : TE := fun σ H Q => ∃ F sd Qd, Rs K C F H σ sd ∧ m sd Qd ∧ ∀ v H' F' d sd', Rs K C F' H' σ sd' → Stp σ sd F H F' H' sd' → Rp K F' v d → Qd d sd' → Q v H'
def tDR (m : MR) : TE := fun σ H Q => ∃ F sd Qd, Rs K C F H σ sd ∧ m sd Qd ∧ ∀ v H' F' r sd', Rs K C F' H' σ sd' → Stp σ sd F H F' H' sd' → RvOk K C F' H' v r → Fre σ sd' v r → (isOwn r = true → ∀ q, v = .ref q → H q = none) → Qd r sd' → Q v H'
def tDT (m : MT) : TT := fun σ H Q => ∃ F sd Qd, Rs K C F H σ sd ∧ m sd Qd ∧ ∀ b H' F' sd', Rs K C F' H' σ sd' → Stp σ sd F H F' H' sd' → Qd b sd' → Q b H'
def tDA (m : MA) : TA := fun σ H Q => ∃ F sd Qd, Rs K C F H σ sd ∧ m sd Qd ∧ ∀ vs H' F' ds sd', Rs K C F' H' σ sd' → Stp σ sd F H F' H' sd' → RpA K F' vs ds → Qd ds sd' → Q vs H'
def tDG (m : MG) : TG := fun v σ H Q => ∃ F sd d Qd, Rs K C F H σ sd ∧ Rp K F v d ∧ m d sd Qd ∧ ∀ σ' sd', Rs K C F H σ' sd' → Qd sd' → Q σ' H
def tDGs (m : MGs) : TGs := fun vs σ H Q => ∃ F sd ds Qd, Rs K C F H σ sd ∧ RpA K F vs ds ∧ m ds sd Qd ∧ ∀ σ' sd', Rs K C F H σ' sd' → Qd sd' → Q σ' H
/-- what is wished of a raise -/
def wD (CN : String → Option Addr) (W : WD) : WX := fun cls d σ H => ∃ c a F sd, CN c = some a ∧ cls = .ref a ∧ d = none ∧ Rs K C F H σ sd ∧ W c sd
/-- what follows, from the frozen heap F0 on: the readings of D are those of Dd -/
structure EndOk (F0 : Hp) (Dd : DE) (D : Ends) : Prop where
  nx : ∀ F H σ sd, Same F0 F → Rs K C F H σ sd → Dd.nx sd → D.nx σ H
  rt : ∀ F H σ sd v r, Same F0 F → Rs K C F H σ sd → RvOk K C F H v r → (isOwn r = true → ∀ q, v = .ref q → C.H0 q = none) → Dd.rt r sd → D.rt v H
  bk : ∀ F H σ sd, Same F0 F → Rs K C F H σ sd → Dd.bk sd → D.bk σ H
  ct : ∀ F H σ sd, Same F0 F → Rs K C F H σ sd → Dd.ct sd → D.ct σ H
def tDS (m : MS) : TS := fun D σ H => ∃ F sd Dd, Rs K C F H σ sd ∧ EndOk K C F Dd D ∧ m Dd sd
/-- an iterator that gives the data ds, one by one -/
structure Wk (J : It) (F0 : Hp) (ds : List PyData) : Prop where
  ex : ∃ (G : Hp → Prop) (Y : Nat → Hp → V → Hp → Prop), Walk J ds.length G Y ∧ (∀ H, Same F0 H → G H) ∧
    ∀ i H x H' F, i < ds.length → Same F0 F → Same F H → Y i H x H' → ∃ F' d, Al F H F' H' ∧ ds[i]? = some d ∧ Rp K F' x d
def tDI (m : MI) : TI := fun σ H R => ∃ F sd Qd, Rs K C F H σ sd ∧ m sd Qd ∧ ∀ J H' F' ds sd', Rs K C F' H' σ sd' → Stp σ sd F H F' H' sd' → Wk K J F' ds → Qd ds sd' → R J H'
end
theorem EndOk.mono {K : PySem.W.Frag} {C : Ct} {F F' : Hp} {Dd : DE} {D : Ends} (E : EndOk K C F Dd D) (s : Same F F') : EndOk K C F' Dd D :=
  ⟨fun F1 H σ sd e => E.nx F1 H σ sd (s.trans e), fun F1 H σ sd v r e => E.rt F1 H σ sd v r (s.trans e), fun F1 H σ sd e => E.bk F1 H σ sd (s.trans e), fun F1 H σ sd e => E.ct F1 H σ sd (s.trans e)⟩
end DL
namespace DL
open PySem PySem.Spec PyProof.Rows L2
section
variable {X : Cx}
theorem pe_imp {e : Expr} {t t' : TE} (h : PE X e t) (i : ∀ σ H Q, t' σ H Q → t σ H Q) : PE X e t' := ⟨fun pins s σ H Q I q => h.run pins s σ H Q I (i _ _ _ q)⟩
theorem pt_imp {e : Expr} {t t' : TT} (h : PT X e t) (i : ∀ σ H Q, t' σ H Q → t σ H Q) : PT X e t' := ⟨fun pins s σ H Q I q => h.run pins s σ H Q I (i _ _ _ q)⟩
theorem pw_imp {e : Expr} {t t' : TT} (h : PW X e t) (i : ∀ σ H Q, t' σ H Q → t σ H Q) : PW X e t' := ⟨fun wh pins s σ H Q I q => h.run wh pins s σ H Q I (i _ _ _ q)⟩
theorem pa_imp {e : List Expr} {t t' : TA} (h : PA X e t) (i : ∀ σ H Q, t' σ H Q → t σ H Q) : PA X e t' := ⟨fun pos pins s σ H Q I q => h.run pos pins s σ H Q I (i _ _ _ q)⟩
theorem pk_imp {e : List Keyword} {t t' : TA} (h : PK X e t) (i : ∀ σ H Q, t' σ H Q → t σ H Q) : PK X e t' := ⟨fun pos pins s σ H Q I q => h.run pos pins s σ H Q I (i _ _ _ q)⟩
theorem pg_imp {e : Expr} {t t' : TG} (h : PG X e t) (i : ∀ v σ H Q, t' v σ H Q → t v σ H Q) : PG X e t' := ⟨fun pins s σ H v u Q I r q => h.run pins s σ H v u Q I r (i _ _ _ _ q)⟩
theorem pgs_imp {e : List Expr} {t t' : TGs} (h : PGs X e t) (i : ∀ v σ H Q, t' v σ H Q → t v σ H Q) : PGs X e t' := ⟨fun pins s σ H v u Q I r q => h.run pins s σ H v u Q I r (i _ _ _ _ q)⟩
theorem pi_imp {tg e : Expr} {t t' : TI} (h : PI X tg e t) (i : ∀ σ H Q, t' σ H Q → t σ H Q) : PI X tg e t' := ⟨fun pins s σ H Q I q => h.run pins s σ H Q I (i _ _ _ q)⟩
theorem ps_imp {e : Stmt} {t t' : TS} (h : PS X e t) (i : ∀ D σ H, t' D σ H → t D σ H) : PS X e t' := ⟨fun pins s σ H D I q => h.run pins s σ H D I (i _ _ _ q)⟩
theorem pss_imp {e : List Stmt} {t t' : TS} (h : PSs X e t) (i : ∀ D σ H, t' D σ H → t D σ H) : PSs X e t' := ⟨fun pins s σ H D I q => h.run pins s σ H D I (i _ _ _ q)⟩
theorem pg_or {e : Expr} {t t' : TG} (h : PG X e t) (h' : PG X e t') : PG X e (fun v σ H Q => t v σ H Q ∨ t' v σ H Q) :=
  ⟨fun pins s σ H v u Q I r q => q.elim (h.run pins s σ H v u Q I r) (h'.run pins s σ H v u Q I r)⟩
end
section
variable {K : PySem.W.Frag} {C : Ct} {F F' H H' : Hp} {σ : L2.St} {sd sd' : DSt} {X : Cx}
theorem td_var {i : Nat} : ∀ σ H Q, tD K C (mVar i) σ H Q → tVar i σ H Q := by
  rintro σ H Q ⟨F, sd, Qd, R, h, k⟩
  unfold mVar at h
  have hs := R.slot i
  cases e : sget sd i with
  | no => rw [e] at h; exact h.elim
  | va d =>
    rw [e] at h hs
    obtain ⟨v, e1, r⟩ := hs
    exact ⟨v, gv_some.mp e1, k v H F d sd R .refl r h⟩
  | own ds =>
    rw [e] at h
    obtain ⟨v, F', e1, R', S, r⟩ := R.freeze e
    exact ⟨v, gv_some.mp e1, k v H F' _ _ R' S r h⟩
  | well n => rw [e] at h; exact h.elim
  | scr n => rw [e] at h; exact h.elim
  | exc n => rw [e] at h; exact h.elim
theorem pd_var {i : Nat} {x : Str} {pos : Pos} (hN : X.N[i]? = some x) (hv : Vis X.env.scope x) (hd : (x == ("__debug__" : Str)) = false := by decide) (hcd : (x == ("__classdict__" : Str)) = false := by decide) :
    PE X (.Name x pos) (tD X.K C (mVar i)) := pe_imp (pe_var hN hv hd hcd) td_var
theorem td_c {v : V} {d : PyData} (r : ∀ F, Rp K F v d) : ∀ σ H Q, tD K C (mC d) σ H Q → tC v σ H Q := by
  rintro σ H Q ⟨F, sd, Qd, R, h, k⟩
  exact k v H F d sd R .refl (r F) h
theorem pd_int {i : Int} {j} {pos : Pos} : PE X (.Constant (.int i) j pos) (tD X.K C (mC (.int i))) := pe_imp pe_int (td_c fun _ => .int i)
theorem pd_bl {b : Bool} {j} {pos : Pos} : PE X (.Constant (.bool b) j pos) (tD X.K C (mC (.bool b))) := pe_imp pe_bl (td_c fun _ => .bl b)
theorem pd_non {j} {pos : Pos} : PE X (.Constant .none j pos) (tD X.K C (mC .none)) := pe_imp pe_non (td_c fun _ => .non)
theorem pd_str {x : Str} {j} {pos : Pos} : PE X (.Constant (.str x) j pos) (tD X.K C (mC (.str x))) := pe_imp pe_str (td_c fun _ => .str x)
/-- a module's constant -/
theorem pd_glob {x : Str} {v : V} {u : Value} {d : PyData} {pos : Pos} (hm : X.mg x = some u) (r : RelV v u) (q : ∀ F, Rp X.K F v d) (hg : Gl X x := by rfl) (hd : (x == ("__debug__" : Str)) = false := by decide) :
    PE X (.Name x pos) (tD X.K C (mC d)) := pe_imp (pe_glob hg hm r hd) (td_c q)
/-- what r asks of two values, told by f on data -/
def RL2 (K : PySem.W.Frag) (r : R2) (f : PyData → PyData → Option PyData) : Prop :=
  ∀ (F H : Hp) (x y : V) (a b z : PyData) (Q : VK), Same F H → (∀ p, H p = none → F p = none) → Rp K F x a → Rp K F y b → f a b = some z → (∀ v F' H', Al F H F' H' → Rp K F' v z → Q v H') → r x y H Q
theorem td_op2 {r : R2} {f : PyData → PyData → Option PyData} {ma mb : ME} (L : RL2 K r f) : ∀ σ H Q, tD K C (mOp2 f ma mb) σ H Q → tOp r (tD K C ma) (tD K C mb) σ H Q := by
  rintro σ H Q ⟨F, sd, Qd, R, h, k⟩
  refine ⟨F, sd, _, R, h, fun x H1 F1 a sd1 R1 S1 rx h1 => ⟨F1, sd1, _, R1, h1, fun y H2 F2 b sd2 R2 S2 ry h2 => ?_⟩⟩
  obtain ⟨z, e, q⟩ := h2
  exact L F2 H2 x y a b z Q R2.ext (fun p => R2.free) (rx.mono S2.fr) ry e fun v F' H' al rz => k v H' F' z sd2 (R2.al al) ((S1.trans S2).trans (.al R2 al)) rz q
theorem pd_op {op} {r : R2} {f : PyData → PyData → Option PyData} {ma mb : ME} {a b : Expr} {pos : Pos} (ho : OpR X (binaryOp op) r) (L : RL2 X.K r f) (ha : PE X a (tD X.K C ma)) (hb : PE X b (tD X.K C mb)) :
    PE X (.BinOp a op b pos) (tD X.K C (mOp2 f ma mb)) := pe_imp (pe_op ho ha hb) (td_op2 L)
theorem pd_cmp {op} {r : R2} {f : PyData → PyData → Option PyData} {ma mb : ME} {a b : Expr} {pos : Pos} (ho : OpR X (compareOp op) r) (L : RL2 X.K r f) (ha : PE X a (tD X.K C ma)) (hb : PE X b (tD X.K C mb)) (hm : behindInMarks op b = false) :
    PE X (.Compare a [op] [b] pos) (tD X.K C (mOp2 f ma mb)) := pe_imp (pe_cmpR ho ha hb hm) (td_op2 L)
theorem td_test {te : TE} {m : ME} (h : ∀ σ H Q, tD K C m σ H Q → te σ H Q) : ∀ σ H Q, tDT K C (mT m) σ H Q → tTest te σ H Q := by
  rintro σ H Q ⟨F, sd, Qd, R, h1, k⟩
  refine h σ H _ ⟨F, sd, _, R, h1, fun v H' F' d sd' R' S r q => ?_⟩
  obtain ⟨c, rfl, q⟩ := q
  cases r
  exact ⟨c, rfl, k c H' F' sd' R' S q⟩
theorem td_tB {te : TE} {m : ME} (h : ∀ σ H Q, tD K C m σ H Q → te σ H Q) : ∀ σ H Q, tDT K C (mT m) σ H Q → tB te σ H Q := by
  rintro σ H Q ⟨F, sd, Qd, R, h1, k⟩
  refine h σ H _ ⟨F, sd, _, R, h1, fun v H' F' d sd' R' S r q => ?_⟩
  obtain ⟨c, rfl, q⟩ := q
  cases r
  exact ⟨c, rfl, k c H' F' sd' R' S q⟩
theorem pdt_cmp {op} {r : R2} {f : PyData → PyData → Option PyData} {ma mb : ME} {a b : Expr} {pos : Pos} (ho : OpR X (compareOp op) r) (L : RL2 X.K r f) (ha : PE X a (tD X.K C ma)) (hb : PE X b (tD X.K C mb)) (hm : behindInMarks op b = false) :
    PT X (.Compare a [op] [b] pos) (tDT X.K C (mT (mOp2 f ma mb))) := pt_imp (pt_cmpR ho ha hb hm) (td_test (td_op2 L))
theorem pdt_val {e : Expr} {m : ME} (h : PE X e (tD X.K C m)) (he : ∀ whole, isTrue e X.env whole = (do let v ← whole; standAt e.pos; holding [v] (truthy v)) := by intro _; rfl) : PT X e (tDT X.K C (mT m)) :=
  pt_imp (pt_val h he) (td_tB fun _ _ _ q => q)
theorem pdt_not {e : Expr} {t : MT} {pos : Pos} (h : PT X e (tDT X.K C t)) : PT X (.UnaryOp .Not e pos) (tDT X.K C (mTNot t)) := pt_imp (pt_not h) (by
  rintro σ H Q ⟨F, sd, Qd, R, h1, k⟩
  exact ⟨F, sd, _, R, h1, fun b H' F' sd' R' S q => k (!b) H' F' sd' R' S q⟩)
theorem pdw_and1 {a : Expr} {t : MT} {pos : Pos} (h : PT X a (tDT X.K C t)) : PW X (.BoolOp .And [a] pos) (tDT X.K C t) := pw_and1 h
theorem pdw_or1 {a : Expr} {t : MT} {pos : Pos} (h : PT X a (tDT X.K C t)) : PW X (.BoolOp .Or [a] pos) (tDT X.K C t) := pw_or1 h
theorem pdw_and {a b : Expr} {rest : List Expr} {t u : MT} {pos : Pos} (ha : PT X a (tDT X.K C t)) (hb : PW X (.BoolOp .And (b :: rest) pos) (tDT X.K C u)) : PW X (.BoolOp .And (a :: b :: rest) pos) (tDT X.K C (mTAnd t u)) := pw_imp (pw_and ha hb) (by
  rintro σ H Q ⟨F, sd, Qd, R, h1, k⟩
  refine ⟨F, sd, _, R, h1, fun b H' F' sd' R' S q => ?_⟩
  cases b with
  | true => exact ⟨F', sd', Qd, R', q, fun b2 H2 F2 sd2 R2 S2 q2 => k b2 H2 F2 sd2 R2 (S.trans S2) q2⟩
  | false => exact k false H' F' sd' R' S q)
theorem pdw_or {a b : Expr} {rest : List Expr} {t u : MT} {pos : Pos} (ha : PT X a (tDT X.K C t)) (hb : PW X (.BoolOp .Or (b :: rest) pos) (tDT X.K C u)) : PW X (.BoolOp .Or (a :: b :: rest) pos) (tDT X.K C (mTOr t u)) := pw_imp (pw_or ha hb) (by
  rintro σ H Q ⟨F, sd, Qd, R, h1, k⟩
  refine ⟨F, sd, _, R, h1, fun b H' F' sd' R' S q => ?_⟩
  cases b with
  | true => exact k true H' F' sd' R' S q
  | false => exact ⟨F', sd', Qd, R', q, fun b2 H2 F2 sd2 R2 S2 q2 => k b2 H2 F2 sd2 R2 (S.trans S2) q2⟩)
theorem pd_and {a b : Expr} {rest : List Expr} {ma mb : ME} {pos : Pos} (ha : PE X a (tD X.K C ma)) (hb : PE X (.BoolOp .And (b :: rest) pos) (tD X.K C mb)) : PE X (.BoolOp .And (a :: b :: rest) pos) (tD X.K C (mAnd ma mb)) := pe_imp (pe_and ha hb) (by
  rintro σ H Q ⟨F, sd, Qd, R, h1, k⟩
  refine ⟨F, sd, _, R, h1, fun v H' F' d sd' R' S r q => ?_⟩
  obtain ⟨c, rfl, q⟩ := q
  cases r
  refine ⟨c, rfl, ?_⟩
  cases c with
  | true => exact ⟨F', sd', Qd, R', q, fun b2 H2 F2 d2 sd2 R2 S2 r2 q2 => k b2 H2 F2 d2 sd2 R2 (S.trans S2) r2 q2⟩
  | false => exact k (.bl false) H' F' _ sd' R' S (.bl false) q)
theorem pd_or {a b : Expr} {rest : List Expr} {ma mb : ME} {pos : Pos} (ha : PE X a (tD X.K C ma)) (hb : PE X (.BoolOp .Or (b :: rest) pos) (tD X.K C mb)) : PE X (.BoolOp .Or (a :: b :: rest) pos) (tD X.K C (mOr ma mb)) := pe_imp (pe_or ha hb) (by
  rintro σ H Q ⟨F, sd, Qd, R, h1, k⟩
  refine ⟨F, sd, _, R, h1, fun v H' F' d sd' R' S r q => ?_⟩
  obtain ⟨c, rfl, q⟩ := q
  cases r
  refine ⟨c, rfl, ?_⟩
  cases c with
  | true => exact k (.bl true) H' F' _ sd' R' S (.bl true) q
  | false => exact ⟨F', sd', Qd, R', q, fun b2 H2 F2 d2 sd2 R2 S2 r2 q2 => k b2 H2 F2 d2 sd2 R2 (S.trans S2) r2 q2⟩)
theorem pd_not {a : Expr} {ma : ME} {pos : Pos} (ha : PE X a (tD X.K C ma)) : PE X (.UnaryOp .Not a pos) (tD X.K C (mNot ma)) := pe_imp (pe_not ha) (by
  rintro σ H Q ⟨F, sd, Qd, R, h1, k⟩
  refine ⟨F, sd, _, R, h1, fun v H' F' d sd' R' S r q => ?_⟩
  obtain ⟨c, rfl, q⟩ := q
  cases r
  exact ⟨c, rfl, k (.bl (!c)) H' F' _ sd' R' S (.bl _) q⟩)
theorem pd_one {op} {a : Expr} {m : ME} {pos : Pos} (h : PE X a (tD X.K C m)) : PE X (.BoolOp op [a] pos) (tD X.K C m) := pe_one h
theorem pd_ifE {c a b : Expr} {t : MT} {ma mb : ME} {pos : Pos} (hc : PT X c (tDT X.K C t)) (ha : PE X a (tD X.K C ma)) (hb : PE X b (tD X.K C mb)) : PE X (.IfExp c a b pos) (tD X.K C (mIfE t ma mb)) := pe_imp (pe_ifExp hc ha hb) (by
  rintro σ H Q ⟨F, sd, Qd, R, h1, k⟩
  refine ⟨F, sd, _, R, h1, fun b H' F' sd' R' S q => ?_⟩
  cases b with
  | true => exact ⟨F', sd', Qd, R', q, fun b2 H2 F2 d2 sd2 R2 S2 r2 q2 => k b2 H2 F2 d2 sd2 R2 (S.trans S2) r2 q2⟩
  | false => exact ⟨F', sd', Qd, R', q, fun b2 H2 F2 d2 sd2 R2 S2 r2 q2 => k b2 H2 F2 d2 sd2 R2 (S.trans S2) r2 q2⟩)
theorem pd_chain {op op'} {r r' : R2} {f g : PyData → PyData → Option PyData} {a b c : Expr} {ma mb mc : ME} {pos : Pos} (ho : OpR X (compareOp op) r) (ho' : OpR X (compareOp op') r') (L : RL2 X.K r f) (L' : RL2 X.K r' g)
    (ha : PE X a (tD X.K C ma)) (hb : PE X b (tD X.K C mb)) (hc : PE X c (tD X.K C mc)) (hu : ∀ {a b : PyData} {z : PyData}, f a b = some z → ∃ k, z = .bool k) (t : PE X (.Compare a [op, op'] [b, c] pos) (tChain r r' (tD X.K C ma) (tD X.K C mb) (tD X.K C mc))) :
    PE X (.Compare a [op, op'] [b, c] pos) (tD X.K C (mChain f g ma mb mc)) := pe_imp t (by
  rintro σ H Q ⟨F, sd, Qd, R, h, k⟩
  refine ⟨F, sd, _, R, h, fun x H1 F1 a sd1 R1 S1 rx h1 => ⟨F1, sd1, _, R1, h1, fun y H2 F2 b sd2 R2 S2 ry h2 => ?_⟩⟩
  obtain ⟨cc, e, q⟩ := h2
  refine L F2 H2 x y a b (.bool cc) _ R2.ext (fun p => R2.free) (rx.mono S2.fr) ry e fun v F' H' al rz => ?_
  cases rz
  refine ⟨cc, rfl, ?_⟩
  have S' := (S1.trans S2).trans (.al R2 al)
  cases cc with
  | true =>
    refine ⟨F', sd2, _, R2.al al, q, fun w H3 F3 d sd3 R3 S3 rw_ h3 => ?_⟩
    obtain ⟨z2, e2, q2⟩ := h3
    refine L' F3 H3 y w b d z2 _ R3.ext (fun p => R3.free) (ry.mono ((Stp.al R2 al).fr.trans S3.fr)) rw_ e2 fun v F4 H4 al2 rz2 => k v H4 F4 z2 sd3 (R3.al al2) ((S'.trans S3).trans (.al R3 al2)) rz2 q2
  | false => exact k (.bl false) H' F' _ sd2 (R2.al al) S' (.bl false) q)
/-- one place -/
def RL1 (K : PySem.W.Frag) (r : V → Hp → VK → Prop) (f : PyData → Option PyData) : Prop :=
  ∀ (F H : Hp) (x : V) (a z : PyData) (Q : VK), Same F H → (∀ p, H p = none → F p = none) → Rp K F x a → f a = some z → (∀ v F' H', Al F H F' H' → Rp K F' v z → Q v H') → r x H Q
theorem pd_un {op} {r : V → Hp → VK → Prop} {f : PyData → Option PyData} {ma : ME} {a : Expr} {pos : Pos} (ho : UnR X (unaryOp op) r) (L : RL1 X.K r f) (ha : PE X a (tD X.K C ma)) : PE X (.UnaryOp op a pos) (tD X.K C (mOp1 f ma)) := pe_imp (pe_un ho ha) (by
  rintro σ H Q ⟨F, sd, Qd, R, h, k⟩
  refine ⟨F, sd, _, R, h, fun x H1 F1 a sd1 R1 S1 rx h1 => ?_⟩
  obtain ⟨z, e, q⟩ := h1
  exact L F1 H1 x a z Q R1.ext (fun p => R1.free) rx e fun v F' H' al rz => k v H' F' z sd1 (R1.al al) (S1.trans (.al R1 al)) rz q)
theorem pd_ix {a b : Expr} {r : R2} {f : PyData → PyData → Option PyData} {ma mb : ME} {pos : Pos} (hr : IxR X r) (L : RL2 X.K r f) (ha : PE X a (tD X.K C ma)) (hb : PE X b (tD X.K C mb)) (hs : PlainIx b := by exact fun _ _ => rfl) :
    PE X (.Subscript a b pos) (tD X.K C (mOp2 f ma mb)) := pe_imp (pe_ix hr ha hb hs) (td_op2 L)
theorem pda_nil : PA X [] (tDA X.K C mNil) := pa_imp pa_nil (by
  rintro σ H Q ⟨F, sd, Qd, R, h, k⟩
  exact k [] H F [] sd R .refl .nil h)
theorem td_cons {me : ME} {ma : MA} : ∀ σ H Q, tDA K C (mCons me ma) σ H Q → tCons (tD K C me) (tDA K C ma) σ H Q := by
  rintro σ H Q ⟨F, sd, Qd, R, h, k⟩
  exact ⟨F, sd, _, R, h, fun x H1 F1 a sd1 R1 S1 rx h1 => ⟨F1, sd1, _, R1, h1, fun ys H2 F2 ds sd2 R2 S2 ry h2 => k (x :: ys) H2 F2 (a :: ds) sd2 R2 (S1.trans S2) (.cons (rx.mono S2.fr) ry) h2⟩⟩
theorem pda_cons {e : Expr} {es : List Expr} {me : ME} {ma : MA} (he : PE X e (tD X.K C me)) (hr : PA X es (tDA X.K C ma)) (hs : starEach (e :: es) X.env = (false, eval e X.env) :: starEach es X.env := by rfl) : PA X (e :: es) (tDA X.K C (mCons me ma)) :=
  pa_imp (pa_cons he hr hs) td_cons
theorem pdk_nil : PK X [] (tDA X.K C mNil) := pk_imp pk_nil (by
  rintro σ H Q ⟨F, sd, Qd, R, h, k⟩
  exact k [] H F [] sd R .refl .nil h)
theorem pdk_cons {nm : Option Str} {e : Expr} {kpos : Pos} {es : List Keyword} {me : ME} {ma : MA} (he : PE X e (tD X.K C me)) (hr : PK X es (tDA X.K C ma)) : PK X (⟨nm, e, kpos⟩ :: es) (tDA X.K C (mCons me ma)) :=
  pk_imp (pk_cons he hr) td_cons
theorem pd_tup {es : List Expr} {x1} {ma : MA} {pos : Pos} (h : PA X es (tDA X.K C ma)) : PE X (.Tuple es x1 pos) (tD X.K C (mTup ma)) := pe_imp (pe_tup h) (by
  rintro σ H Q ⟨F, sd, Qd, R, h, k⟩
  refine ⟨F, sd, _, R, h, fun vs H1 F1 ds sd1 R1 S1 rs q => ⟨?_, fun p hp => ?_⟩⟩
  · rw [rs.length]; exact Nat.le_trans q.1 (by decide)
  · exact k (.ref p) _ (upd F1 p (.tup vs)) _ sd1 (R1.al (.new hp)) (S1.trans (.al R1 (.new hp))) (.tup (.inl (.inl upd_same)) (rs.mono (same_new (R1.free hp)))) q.2)
theorem td_lst {ma : MA} : ∀ σ H Q, tDR K C (mrLst ma) σ H Q → tLst (tDA K C ma) σ H Q := by
  rintro σ H Q ⟨F, sd, Qd, R, h, k⟩
  refine ⟨F, sd, _, R, h, fun vs H1 F1 ds sd1 R1 S1 rs q => ⟨?_, fun p hp => ?_⟩⟩
  · rw [rs.length]; exact Nat.le_trans q.1 (by decide)
  · have R2 := R1.allocH (o := .lst vs) hp
    refine k (.ref p) _ F1 (.own ds) sd1 R2 (S1.trans ⟨Same.refl _, fun a o e _ => same_new hp a o e, fun _ z => z, fun _ _ e => .inl e, fun a e => ?_⟩) ⟨p, vs, rfl, upd_same, R1.free hp, R1.still p hp, rs⟩ (fun _ q' e => ?_) (fun _ q' e => ?_) q.2
    · by_cases z : a = p
      · subst z; exact hp
      · rw [upd_ne z] at e; exact e
    · cases e
      rintro ⟨i, o, e⟩
      have hs := R1.slot i
      cases es : sget sd1 i with
      | no => rw [es] at o; cases o
      | va d => rw [es] at o; cases o
      | scr d => rw [es] at o; cases o
      | exc d => rw [es] at o; cases o
      | own ds' => rw [es] at hs; obtain ⟨q2, vs2, e1, e2, _⟩ := hs; rw [e] at e1; cases e1; rw [hp] at e2; cases e2
      | well n => rw [es] at hs; obtain ⟨q2, _, _, _, e1, e2, _⟩ := hs; rw [e] at e1; cases e1; rw [hp] at e2; cases e2
    · cases e
      have := S1.st p hp
      exact this
theorem td_lstV {ma : MA} : ∀ σ H Q, tD K C (mLst ma) σ H Q → tLst (tDA K C ma) σ H Q := by
  rintro σ H Q ⟨F, sd, Qd, R, h, k⟩
  refine ⟨F, sd, _, R, h, fun vs H1 F1 ds sd1 R1 S1 rs q => ⟨?_, fun p hp => ?_⟩⟩
  · rw [rs.length]; exact Nat.le_trans q.1 (by decide)
  · exact k (.ref p) _ (upd F1 p (.lst vs)) _ sd1 (R1.al (.new hp)) (S1.trans (.al R1 (.new hp))) (.lst upd_same (rs.mono (same_new (R1.free hp)))) q.2
theorem pd_lst {es : List Expr} {ma : MA} {pos : Pos} (h : PA X es (tDA X.K C ma)) : PE X (.List es pos) (tD X.K C (mLst ma)) := pe_imp (pe_lst h) td_lstV
theorem pdr_lst {es : List Expr} {ma : MA} {pos : Pos} (h : PA X es (tDA X.K C ma)) : PE X (.List es pos) (tDR X.K C (mrLst ma)) := pe_imp (pe_lst h) td_lst
theorem pdr_of {e : Expr} {m : ME} (h : PE X e (tD X.K C m)) : PE X e (tDR X.K C (mrOf m)) := pe_imp h (by
  rintro σ H Q ⟨F, sd, Qd, R, h, k⟩
  exact ⟨F, sd, _, R, h, fun v H' F' d sd' R' S r q => k v H' F' (.va d) sd' R' S ⟨v, rfl, r⟩ (fun z => nomatch z) (fun z => nomatch z) q⟩)
def RLC (K : PySem.W.Frag) (r : List V → Hp → VK → Prop) (f : List PyData → Option PyData) : Prop :=
  ∀ (F H : Hp) (xs : List V) (as : List PyData) (z : PyData) (Q : VK), Same F H → (∀ p, H p = none → F p = none) → RpA K F xs as → f as = some z → (∀ v F' H', Al F H F' H' → Rp K F' v z → Q v H') → r xs H Q
theorem td_cb {r : List V → Hp → VK → Prop} {f : List PyData → Option PyData} {ma : MA} (L : RLC K r f) : ∀ σ H Q, tD K C (mCallB f ma) σ H Q → tCB r (tDA K C ma) σ H Q := by
  rintro σ H Q ⟨F, sd, Qd, R, h, k⟩
  refine ⟨F, sd, _, R, h, fun xs H1 F1 as sd1 R1 S1 rx h1 => ?_⟩
  obtain ⟨z, e, q⟩ := h1
  exact L F1 H1 xs as z Q R1.ext (fun p => R1.free) rx e fun v F' H' al rz => k v H' F' z sd1 (R1.al al) (S1.trans (.al R1 al)) rz q
theorem pd_callB {id : String} {x : Str} {p pos : Pos} {e : Expr} {es : List Expr} {r : List V → Hp → VK → Prop} {f : List PyData → Option PyData} {ma : MA} (hc : CallR X (.builtin id) r) (L : RLC X.K r f) (hm : X.mg x = none) (hv : bootBuiltins x = some (.builtin id))
    (ha : PA X (e :: es) (tDA X.K C ma)) (hg : Gl X x := by rfl) (hn : x ≠ "__name__" := by decide) (hdb : (x == ("__debug__" : Str)) = false := by decide)
    (he : starEach (e :: es) X.env = (false, eval e X.env) :: starEach es X.env := by rfl) (hpl : (backTo pos (starEach es X.env)).any (·.1) = false := by rfl) : PE X (.Call (.Name x p) (e :: es) [] pos) (tD X.K C (mCallB f ma)) :=
  pe_imp (pe_callB hc hg hm hv ha hn hdb he hpl) (td_cb L)
theorem pd_callTy {T : String} {x : Str} {p pos : Pos} {e : Expr} {es : List Expr} {r : List V → Hp → VK → Prop} {f : List PyData → Option PyData} {ma : MA} (hc : CallR X (.type T) r) (L : RLC X.K r f) (hm : X.mg x = none) (hv : bootBuiltins x = some (.type T))
    (ha : PA X (e :: es) (tDA X.K C ma)) (hg : Gl X x := by rfl) (hn : x ≠ "__name__" := by decide) (hdb : (x == ("__debug__" : Str)) = false := by decide)
    (he : starEach (e :: es) X.env = (false, eval e X.env) :: starEach es X.env := by rfl) (hpl : (backTo pos (starEach es X.env)).any (·.1) = false := by rfl) : PE X (.Call (.Name x p) (e :: es) [] pos) (tD X.K C (mCallB f ma)) :=
  pe_imp (pe_callTy hc hg hm hv ha hn hdb he hpl) (td_cb L)
/-- a builtin that is a module's name (math.gcd) -/
theorem pd_slice {e : Expr} {lo hi : Option Expr} {p2 pos : Pos} {r : V → Option Int → Option Int → Hp → VK → Prop} {f : PyData → Option Int → Option Int → Option PyData} {me : ME} {ml mh : DSt → (Option Int → DSt → Prop) → Prop} {tl th : TO}
    (L : ∀ (F H : Hp) (x : V) (a z : PyData) (lo hi : Option Int) (Q : VK), Same F H → (∀ p, H p = none → F p = none) → Rp X.K F x a → f a lo hi = some z → (∀ v F' H', Al F H F' H' → Rp X.K F' v z → Q v H') → r x lo hi H Q)
    (hl : ∀ σ H Q F sd Qd, Rs X.K C F H σ sd → ml sd Qd → (∀ o H' F' sd', Rs X.K C F' H' σ sd' → Stp σ sd F H F' H' sd' → Qd o sd' → Q o H') → tl σ H Q)
    (hh : ∀ σ H Q F sd Qd, Rs X.K C F H σ sd → mh sd Qd → (∀ o H' F' sd', Rs X.K C F' H' σ sd' → Stp σ sd F H F' H' sd' → Qd o sd' → Q o H') → th σ H Q)
    (t : PE X (.Subscript e (.Slice lo hi none p2) pos) (tSl r (tD X.K C me) tl th)) : PE X (.Subscript e (.Slice lo hi none p2) pos) (tD X.K C (mSl f me ml mh)) := pe_imp t (by
  rintro σ H Q ⟨F, sd, Qd, R, h, k⟩
  refine ⟨F, sd, _, R, h, fun x H1 F1 a sd1 R1 S1 rx h1 => ?_⟩
  refine hl σ H1 _ F1 sd1 _ R1 h1 fun l H2 F2 sd2 R2 S2 h2 => ?_
  refine hh σ H2 _ F2 sd2 _ R2 h2 fun u H3 F3 sd3 R3 S3 h3 => ?_
  obtain ⟨z, e, q⟩ := h3
  exact L F3 H3 x a z l u Q R3.ext (fun p => R3.free) (rx.mono (S2.fr.trans S3.fr)) e fun v F' H' al rz => k v H' F' z sd3 (R3.al al) (((S1.trans S2).trans S3).trans (.al R3 al)) rz q)
end
end DL
namespace DL
open PySem PySem.Spec PyProof.Rows L2
theorem opR_or {X : Cx} {f : Value → Value → Sem Value} {r r' : R2} (h : OpR X f r) (h' : OpR X f r') : OpR X f (fun x y H Q => r x y H Q ∨ r' x y H Q) :=
  fun pins s σ H x y v u Q I rx ry q => q.elim (h pins s σ H x y v u Q I rx ry) (h' pins s σ H x y v u Q I rx ry)
theorem callR_or {X : Cx} {f : Value} {r r' : List V → Hp → VK → Prop} (h : CallR X f r) (h' : CallR X f r') : CallR X f (fun xs H Q => r xs H Q ∨ r' xs H Q) :=
  fun pins s σ H xs us Q I rx q => q.elim (h pins s σ H xs us Q I rx) (h' pins s σ H xs us Q I rx)
theorem slR_or {X : Cx} {r r' : V → Option Int → Option Int → Hp → VK → Prop} (h : SlR X r) (h' : SlR X r') : SlR X (fun x lo hi H Q => r x lo hi H Q ∨ r' x lo hi H Q) := SlR.or h h'
theorem line_of {n : Nat} (h : n ≤ 100000) : n ≤ sizeLine := Nat.le_trans h (by decide)
theorem line_lt {n : Nat} (h : n < 100000) : n < sizeLine := Nat.lt_of_lt_of_le h (by decide)
section
variable {K : PySem.W.Frag} {X : Cx}
abbrev rAdd (K : PySem.W.Frag) : R2 := fun x y H Q => (((rI0 fun i j => V.int (i + j)) x y H Q ∨ (∃ i j, x = .str i ∧ y = .str j ∧ i.length + j.length ≤ sizeLine ∧ Q (.str (i ++ j)) H)) ∨ rCat x y H Q) ∨ rCatA K x y H Q
theorem or_add : OpR X (binaryOp .Add) (rAdd X.K) := opR_or (opR_or (opR_or op_add op_add_str) op_cat) op_catA
theorem rl_add : RL2 K (rAdd K) opAdd := by
  intro F H x y a b z Q e _ rx ry h k
  unfold opAdd at h
  split at h
  · cases rx; cases ry; cases h
    exact .inl (.inl (.inl ⟨_, _, rfl, rfl, k _ F H .id (.int _)⟩))
  · cases rx; cases ry
    split at h
    · cases h
      rename_i hl
      exact .inl (.inl (.inr ⟨_, _, rfl, rfl, line_of hl, k _ F H .id (.str _)⟩))
    · cases h
  · split at h
    · rename_i hl
      cases h
      cases rx with
      | lst h1 r1 =>
        cases ry with
        | lst h2 r2 =>
          refine .inl (.inr ⟨_, _, _, _, rfl, rfl, e _ _ h1, e _ _ h2, ?_, fun p hp => ?_⟩)
          · rw [r1.length, r2.length]; exact line_of hl
          · have hF : F p = none := by
              cases q : F p with
              | none => rfl
              | some o => rw [e _ _ q] at hp; cases hp
            exact k _ _ _ (.new hp) (.lst upd_same ((r1.append r2).mono (same_new hF)))
    · cases h
  · split at h
    · rename_i hl
      cases h
      cases rx with
      | tup h1 r1 =>
        cases ry with
        | tup h2 r2 =>
          refine .inr ⟨_, _, _, _, rfl, rfl, same_t e h1, same_t e h2, ?_, fun z => ?_, fun z1 z2 => ?_, fun z1 z2 p hp => ?_⟩
          · rw [r1.length, r2.length]; exact line_of hl
          · subst z
            cases r1
            exact k _ F H .id (.tup h2 r2)
          · subst z2
            cases r2
            rw [List.append_nil] at k
            exact k _ F H .id (.tup h1 r1)
          · have hF : F p = none := by
              cases q : F p with
              | none => rfl
              | some o => rw [e _ _ q] at hp; cases hp
            exact k _ _ _ (.new hp) (.tup (.inl (.inl upd_same)) ((r1.append r2).mono (same_new hF)))
    · cases h
  · cases h
theorem free_of {F H : Hp} {p : Addr} (e : Same F H) (hp : H p = none) : F p = none := by
  cases q : F p with
  | none => rfl
  | some o => rw [e _ _ q] at hp; cases hp
theorem rl_sub : RL2 K (rI0 fun i j => V.int (i - j)) opSub := by
  intro F H x y a b z Q e _ rx ry h k
  unfold opSub at h
  split at h
  · cases rx; cases ry; cases h
    exact ⟨_, _, rfl, rfl, k _ F H .id (.int _)⟩
  · cases h
abbrev rMul : R2 := fun x y H Q => rI CMulW (fun i j => V.int (i * j)) x y H Q ∨ rRep x y H Q
theorem or_mul : OpR X (binaryOp .Mult) rMul := opR_or op_mulW op_rep
theorem rpA_rep {F : Hp} {vs : List V} {ds : List PyData} (r : RpA K F vs ds) : ∀ n : Nat, RpA K F (List.replicate n vs).flatten (List.replicate n ds).flatten
  | 0 => .nil
  | n + 1 => by
    rw [List.replicate_succ, List.replicate_succ, List.flatten_cons, List.flatten_cons]
    exact r.append (rpA_rep r n)
theorem rl_mul : RL2 K rMul opMul := by
  intro F H x y a b z Q e _ rx ry h k
  unfold opMul at h
  split at h
  · cases rx; cases ry
    split at h
    · rename_i hs
      cases h
      exact .inl ⟨_, _, rfl, rfl, (by unfold CMulW; exact of_decide_eq_true hs), k _ F H .id (.int _)⟩
    · cases h
  · rename_i a' k'
    split at h
    · rename_i hs
      cases h
      cases ry
      cases rx with
      | lst h1 r1 =>
        refine .inr ⟨_, _, _, rfl, rfl, e _ _ h1, by omega, by omega, ?_, fun p hp => ?_⟩
        · rw [r1.length]
          have h1 : a'.length * k'.toNat ≤ 1000 * 1000 := Nat.mul_le_mul hs.2.2 (by omega)
          exact Nat.le_trans h1 (by decide)
        · exact k _ _ _ (.new hp) (.lst upd_same ((rpA_rep r1 _).mono (same_new (free_of e hp))))
    · cases h
  · cases h
theorem rl_mod : RL2 K (rI (fun _ j => 0 < j) fun i j => V.int (i % j)) opMod := by
  intro F H x y a b z Q e _ rx ry h k
  unfold opMod at h
  split at h
  · cases rx; cases ry
    split at h
    · rename_i hs
      cases h
      exact ⟨_, _, rfl, rfl, hs, k _ F H .id (.int _)⟩
    · cases h
  · cases h
theorem rl_fdiv : RL2 K (rI CDivW fun i j => V.int (i / j)) opFdiv := by
  intro F H x y a b z Q e _ rx ry h k
  unfold opFdiv at h
  split at h
  · cases rx; cases ry
    split at h
    · rename_i hs
      cases h
      exact ⟨_, _, rfl, rfl, hs, k _ F H .id (.int _)⟩
    · cases h
  · cases h
/-- ** by a small exponent -/
def CPowW (i j : Int) : Prop := 0 ≤ j ∧ j ≤ 100 ∧ i.natAbs < 2 ^ 10000
theorem op_powW : OpR X (binaryOp .Pow) (rI CPowW fun i j => .int (i ^ j.toNat)) := by
  intro pins s σ H x y v u Q I rx ry h
  obtain ⟨i, j, rfl, rfl, hc, q⟩ := h
  obtain ⟨t, rfl⟩ := rx
  obtain ⟨t', rfl⟩ := ry
  refine PyProof.Rows.pow_int hc.1 ?_ ⟨.int _, H, I.tok _, ⟨_, rfl⟩, q⟩
  have hb : Builtin.Int.intBits i ≤ 10000 := by
    unfold Builtin.Int.intBits
    split
    · exact Nat.zero_le _
    · have := PySem.Flt.log2_lt_of (by decide : 0 < 10000) hc.2.2
      omega
  have h1 := hc.1
  have h2 := hc.2.1
  have h3 : (Builtin.Int.intBits i : Int) ≤ 10000 := by exact_mod_cast hb
  have h4 : (Builtin.Int.intBits i : Int) * j ≤ 10000 * 100 := Int.mul_le_mul h3 h2 h1 (by decide)
  have h5 : (10000 * 100 : Int) ≤ 2 ^ 27 := by decide
  omega
theorem rl_pow : RL2 K (rI CPowW fun i j => V.int (i ^ j.toNat)) opPow := by
  intro F H x y a b z Q e _ rx ry h k
  unfold opPow at h
  split at h
  · cases rx; cases ry
    split at h
    · rename_i hs
      cases h
      exact ⟨_, _, rfl, rfl, hs, k _ F H .id (.int _)⟩
    · cases h
  · cases h
theorem rl_cmpI {p : Int → Int → Bool} : RL2 K (rI0 fun i j => V.bl (p i j)) (cmpI p) := by
  intro F H x y a b z Q e _ rx ry h k
  unfold cmpI at h
  split at h
  · cases rx; cases ry; cases h
    exact ⟨_, _, rfl, rfl, k _ F H .id (.bl _)⟩
  · cases h
theorem strs_of {a b : PyData} {p : Str × Str} (h : strs? a b = some p) : a = .str p.1 ∧ b = .str p.2 := by
  unfold strs? at h
  split at h
  · cases h; exact ⟨rfl, rfl⟩
  · cases h
theorem or_eqD (hu : X.A.units + 64 < cLine) : OpR X (compareOp .Eq) (fun x y H Q => rEqD X.K x y H Q ∨ rEq x y H Q) := opR_or (op_eqD hu) op_eq
theorem or_neD (hu : X.A.units + 64 < cLine) : OpR X (compareOp .NotEq) (fun x y H Q => rNeD X.K x y H Q ∨ rNe x y H Q) := opR_or (op_neD hu) op_ne
theorem dec_v {x y : Str} : decide (V.str x = V.str y) = decide (x = y) := by
  by_cases h : x = y <;> simp [h]
theorem rl_eq : RL2 K (fun x y H Q => rEqD K x y H Q ∨ rEq x y H Q) opEq := by
  intro F H x y a b z Q e _ rx ry h k
  unfold opEq at h
  split at h
  · rename_i hs
    cases h
    rw [Bool.and_eq_true] at hs
    exact .inl ⟨a, b, rx.dp e (SeqAt.canLay_of_shaped hs.1), ry.dp e (SeqAt.canLay_of_shaped hs.2), hs.1, hs.2, k _ F H .id (.bl _)⟩
  · obtain ⟨p, hp, h⟩ := Option.map_eq_some_iff.mp h
    obtain ⟨rfl, rfl⟩ := strs_of hp
    cases h
    cases rx; cases ry
    refine .inr ⟨rfl, ?_⟩
    rw [dec_v]
    exact k _ F H .id (.bl _)
theorem rl_ne : RL2 K (fun x y H Q => rNeD K x y H Q ∨ rNe x y H Q) opNe := by
  intro F H x y a b z Q e _ rx ry h k
  unfold opNe at h
  split at h
  · rename_i hs
    cases h
    rw [Bool.and_eq_true] at hs
    exact .inl ⟨a, b, rx.dp e (SeqAt.canLay_of_shaped hs.1), ry.dp e (SeqAt.canLay_of_shaped hs.2), hs.1, hs.2, k _ F H .id (.bl _)⟩
  · obtain ⟨p, hp, h⟩ := Option.map_eq_some_iff.mp h
    obtain ⟨rfl, rfl⟩ := strs_of hp
    cases h
    cases rx; cases ry
    refine .inr ⟨rfl, ?_⟩
    rw [dec_v]
    exact k _ F H .id (.bl _)
theorem isN_of {F : Hp} {x : V} {a : PyData} (r : Rp K F x a) : decide (x = .non) = isN a := by
  cases r <;> rfl
abbrev rIsNone : R2 := fun x y H Q => y = .non ∧ Q (.bl (decide (x = .non))) H
abbrev rNotNone : R2 := fun x y H Q => y = .non ∧ Q (.bl (!decide (x = .non))) H
theorem rl_isN : RL2 K rIsNone opIsN2 := by
  intro F H x y a b z Q e _ rx ry h k
  unfold opIsN2 at h
  split at h
  · cases ry; cases h
    refine ⟨rfl, ?_⟩
    rw [isN_of rx]
    exact k _ F H .id (.bl _)
  · cases h
theorem rl_notN : RL2 K rNotNone opNotN2 := by
  intro F H x y a b z Q e _ rx ry h k
  unfold opNotN2 at h
  split at h
  · cases ry; cases h
    refine ⟨rfl, ?_⟩
    rw [isN_of rx]
    exact k _ F H .id (.bl _)
  · cases h
theorem rl_isB : RL2 K (fun x y H Q => ∃ a b, x = V.bl a ∧ y = V.bl b ∧ Q (.bl (decide (a = b))) H) opIsB := by
  intro F H x y a b z Q e _ rx ry h k
  unfold opIsB at h
  split at h
  · cases rx; cases ry; cases h
    exact ⟨_, _, rfl, rfl, k _ F H .id (.bl _)⟩
  · cases h
theorem rl_notB : RL2 K (fun x y H Q => ∃ a b, x = V.bl a ∧ y = V.bl b ∧ Q (.bl (!decide (a = b))) H) opNotB := by
  intro F H x y a b z Q e _ rx ry h k
  unfold opNotB at h
  split at h
  · cases rx; cases ry; cases h
    exact ⟨_, _, rfl, rfl, k _ F H .id (.bl _)⟩
  · cases h
theorem rl_neg : RL1 K (rU fun i => V.int (-i)) opNeg := by
  intro F H x a z Q e _ rx h k
  unfold opNeg at h
  split at h
  · cases rx; cases h
    exact ⟨_, rfl, k _ F H .id (.int _)⟩
  · cases h
theorem atI_rpA {F : Hp} {vs : List V} {ds : List PyData} {i : Int} {d : PyData} (r : RpA K F vs ds) (h : DL.atI ds i = some d) : ∃ v, L2.atI vs i = some v ∧ Rp K F v d := by
  unfold DL.atI at h
  unfold L2.atI
  rw [r.length]
  show ∃ v, ((DL.ixN ds.length i).bind fun j => vs[j]?) = some v ∧ _
  cases e : DL.ixN ds.length i with
  | none => rw [e] at h; cases h
  | some j => rw [e] at h; exact r.get h
theorem rl_ix : RL2 K (rIx K) opIx := by
  intro F H x y a b z Q e _ rx ry h k
  unfold opIx at h
  split at h
  · cases ry
    cases rx with
    | lst h1 r1 =>
      obtain ⟨v, e1, r⟩ := atI_rpA r1 h
      exact .inl ⟨_, _, _, v, rfl, rfl, .inl (.inl (e _ _ h1)), e1, k v F H .id r⟩
  · cases ry
    cases rx with
    | tup h1 r1 =>
      obtain ⟨v, e1, r⟩ := atI_rpA r1 h
      exact .inr (.inl ⟨_, _, _, v, rfl, rfl, same_t e h1, e1, k v F H .id r⟩)
  · cases ry; cases rx
    split at h
    · rename_i z' i' hl
      cases e1 : DL.atI z'.cps.toList i' with
      | none => rw [e1] at h; cases h
      | some c =>
        rw [e1] at h
        cases h
        exact .inr (.inr ⟨_, _, c, rfl, rfl, line_of hl, e1, k _ F H .id (.str _)⟩)
    · cases h
  · cases h
theorem eqV_rp {F : Hp} {x y : V} {a b : PyData} (rx : Rp K F x a) (ry : Rp K F y b) (ha : flatD a = true) (hb : flatD b = true) : eqV x y = PyData.eqv a b := by
  cases rx <;> first | (cases ha; done) | (cases ry <;> first | (cases hb; done) | (simp only [eqV, PyData.eqv]))
theorem flatV_rp {F : Hp} {x : V} {a : PyData} (rx : Rp K F x a) (ha : flatD a = true) : flatV x = true := by
  cases rx <;> first | rfl | (cases ha; done)
theorem inV_rpA {F : Hp} {x : V} {a : PyData} (rx : Rp K F x a) (ha : flatD a = true) : ∀ {vs : List V} {ds : List PyData}, RpA K F vs ds → ds.all flatD = true → inV x vs = ds.any (fun d => PyData.eqv d a) ∧ vs.all flatV = true
  | _, _, .nil, _ => ⟨rfl, rfl⟩
  | v :: vs, d :: ds, .cons h r, hf => by
    rw [List.all_cons, Bool.and_eq_true] at hf
    obtain ⟨i1, i2⟩ := inV_rpA rx ha r hf.2
    refine ⟨?_, ?_⟩
    · show (eqV v x || inV x vs) = _
      rw [List.any_cons, eqV_rp h rx hf.1 ha, i1]
    · rw [List.all_cons, flatV_rp h hf.1, i2]; rfl
theorem rl_inG {neg : Bool} : RL2 K (rIn K neg) (opInS neg) := by
  intro F H x y a b z Q e _ rx ry h k
  unfold opInS at h
  cases hb : items b with
  | none => rw [hb] at h; cases h
  | some ds =>
    rw [hb] at h
    simp only [Option.bind_some] at h
    split at h
    · rename_i hs
      cases h
      rw [Bool.and_eq_true] at hs
      cases ry with
      | lst h1 r1 =>
        cases hb
        obtain ⟨i1, i2⟩ := inV_rpA rx hs.1 r1 hs.2
        refine ⟨_, _, rfl, .inl (.inl (.inl (e _ _ h1))), flatV_rp rx hs.1, i2, ?_⟩
        rw [i1]
        cases neg <;> exact k _ F H .id (.bl _)
      | tup h1 r1 =>
        cases hb
        obtain ⟨i1, i2⟩ := inV_rpA rx hs.1 r1 hs.2
        refine ⟨_, _, rfl, .inr (same_t e h1), flatV_rp rx hs.1, i2, ?_⟩
        rw [i1]
        cases neg <;> exact k _ F H .id (.bl _)
      | _ => cases hb
    · cases h
abbrev rInX (K : PySem.W.Frag) : R2 := fun x y H Q => rIn K false x y H Q ∨ (∃ (c : Nat) (z : Str), x = .str ⟨#[c]⟩ ∧ y = .str z ∧ Q (.bl (decide (c ∈ z.cps.toList))) H)
abbrev rNotInX (K : PySem.W.Frag) : R2 := fun x y H Q => rIn K true x y H Q ∨ (∃ (c : Nat) (z : Str), x = .str ⟨#[c]⟩ ∧ y = .str z ∧ Q (.bl (!decide (c ∈ z.cps.toList))) H)
theorem or_in : OpR X (compareOp .In) (rInX X.K) := opR_or op_in_seq op_in_sign
theorem or_notIn : OpR X (compareOp .NotIn) (rNotInX X.K) := opR_or op_notIn_seq op_notIn_sign
theorem rl_in : RL2 K (rInX K) opIn := by
  intro F H x y a b z Q e f rx ry h k
  unfold opIn at h
  split at h
  · cases rx; cases ry
    rename_i w1 w2
    cases hc : sign? w1 with
    | none => rw [hc] at h; cases h
    | some c =>
      rw [hc] at h
      cases h
      exact .inr ⟨c, w2, by rw [sign_of hc], rfl, k _ F H .id (.bl _)⟩
  · exact .inl (rl_inG F H x y a b z Q e f rx ry h k)
theorem rl_notIn : RL2 K (rNotInX K) opNotIn := by
  intro F H x y a b z Q e f rx ry h k
  unfold opNotIn at h
  split at h
  · cases rx; cases ry
    rename_i w1 w2
    cases hc : sign? w1 with
    | none => rw [hc] at h; cases h
    | some c =>
      rw [hc] at h
      cases h
      exact .inr ⟨c, w2, by rw [sign_of hc], rfl, k _ F H .id (.bl _)⟩
  · exact .inl (rl_inG F H x y a b z Q e f rx ry h k)
end
end DL
namespace DL
open PySem PySem.Spec PyProof.Rows L2
section
variable {K : PySem.W.Frag} {X : Cx} {C : Ct}
theorem rpA1 {F : Hp} {xs : List V} {d : PyData} (r : RpA K F xs [d]) : ∃ x, xs = [x] ∧ Rp K F x d := by
  cases r with
  | cons h t => cases t; exact ⟨_, rfl, h⟩
theorem rpA2 {F : Hp} {xs : List V} {d e : PyData} (r : RpA K F xs [d, e]) : ∃ x y, xs = [x, y] ∧ Rp K F x d ∧ Rp K F y e := by
  cases r with
  | cons h t => obtain ⟨y, rfl, g⟩ := rpA1 t; exact ⟨_, y, rfl, h, g⟩
abbrev rLenX (K : PySem.W.Frag) : List V → Hp → VK → Prop := fun xs H Q => (∃ p ys, xs = [V.ref p] ∧ (SqL K H p ys ∨ SqT K H p ys) ∧ Q (.int ys.length) H) ∨ (∃ z, xs = [V.str z] ∧ z.length ≤ sizeLine ∧ Q (.int z.length) H)
theorem cr_len : CallR X (.builtin "len") (rLenX X.K) := callR_or call_len_seq call_len_str
theorem rc_len : RLC K (rLenX K) bLen := by
  intro F H xs as z Q e _ rx h k
  unfold bLen at h
  split at h
  · obtain ⟨x, rfl, r⟩ := rpA1 rx
    cases h
    cases r with
    | lst h1 r1 =>
      refine .inl ⟨_, _, rfl, .inl (.inl (.inl (e _ _ h1))), ?_⟩
      rw [r1.length]
      exact k _ F H .id (.int _)
  · obtain ⟨x, rfl, r⟩ := rpA1 rx
    cases h
    cases r with
    | tup h1 r1 =>
      refine .inl ⟨_, _, rfl, .inr (same_t e h1), ?_⟩
      rw [r1.length]
      exact k _ F H .id (.int _)
  · obtain ⟨x, rfl, r⟩ := rpA1 rx
    cases r
    split at h
    · rename_i hl
      cases h
      exact .inr ⟨_, rfl, line_of hl, k _ F H .id (.int _)⟩
    · cases h
  · cases h
theorem rc_abs : RLC K (fun xs H Q => ∃ i, xs = [V.int i] ∧ Q (.int (if i < 0 then -i else i)) H) bAbs := by
  intro F H xs as z Q e _ rx h k
  unfold bAbs at h
  split at h
  · obtain ⟨x, rfl, r⟩ := rpA1 rx
    cases h
    cases r
    exact ⟨_, rfl, k _ F H .id (.int _)⟩
  · cases h
theorem rc_max : RLC K (fun xs H Q => ∃ i j, xs = [V.int i, V.int j] ∧ Q (.int (if j > i then j else i)) H) bMax := by
  intro F H xs as z Q e _ rx h k
  unfold bMax at h
  split at h
  · obtain ⟨x, y, rfl, r1, r2⟩ := rpA2 rx
    cases h
    cases r1; cases r2
    exact ⟨_, _, rfl, k _ F H .id (.int _)⟩
  · cases h
theorem rc_min : RLC K (fun xs H Q => ∃ i j, xs = [V.int i, V.int j] ∧ Q (.int (if j < i then j else i)) H) bMin := by
  intro F H xs as z Q e _ rx h k
  unfold bMin at h
  split at h
  · obtain ⟨x, y, rfl, r1, r2⟩ := rpA2 rx
    cases h
    cases r1; cases r2
    exact ⟨_, _, rfl, k _ F H .id (.int _)⟩
  · cases h
theorem cr_int : CallR X (.type "int") (fun xs H Q => ∃ i, xs = [V.int i] ∧ Q (.int i) H) := by
  intro pins s σ H xs us Q I r h
  obtain ⟨i, rfl, q⟩ := h
  obtain ⟨u, rfl, t, rfl⟩ := vals1 r
  exact call_int_int ⟨.int i, H, I, ⟨_, rfl⟩, q⟩
theorem rc_int : RLC K (fun xs H Q => ∃ i, xs = [V.int i] ∧ Q (.int i) H) bInt := by
  intro F H xs as z Q e _ rx h k
  unfold bInt at h
  split at h
  · obtain ⟨x, rfl, r⟩ := rpA1 rx
    cases h
    cases r
    exact ⟨_, rfl, k _ F H .id (.int _)⟩
  · cases h
theorem rc_gcd : RLC K rGcd bGcd := by
  intro F H xs as z Q e _ rx h k
  unfold bGcd at h
  split at h
  · obtain ⟨x, y, rfl, r1, r2⟩ := rpA2 rx
    cases h
    cases r1; cases r2
    exact ⟨_, _, rfl, k _ F H .id (.int _)⟩
  · cases h
theorem bools_rp {F : Hp} : ∀ {ds : List PyData} {vs : List V} {bs : List Bool}, RpA K F vs ds → bools ds = some bs → vs = bs.map V.bl
  | [], _, _, .nil, h => by cases h; rfl
  | .bool b :: r, _, _, .cons h1 h2, h => by
    unfold bools at h
    cases e : bools r with
    | none => rw [e] at h; cases h
    | some bs' =>
      rw [e] at h
      cases h
      cases h1
      rw [bools_rp h2 e]; rfl
  | .none :: _, _, _, _, h => by cases h
  | .int _ :: _, _, _, _, h => by cases h
  | .str _ :: _, _, _, _, h => by cases h
  | .list _ :: _, _, _, _, h => by cases h
  | .tuple _ :: _, _, _, _, h => by cases h
  | .dict _ :: _, _, _, _, h => by cases h
theorem rc_all : RLC K (rAll K) bAll := by
  intro F H xs as z Q e _ rx h k
  unfold bAll at h
  split at h
  · obtain ⟨x, rfl, r⟩ := rpA1 rx
    rename_i ds
    cases eb : bools ds with
    | none => rw [eb] at h; cases h
    | some bs =>
      rw [eb] at h
      cases h
      cases r with
      | lst h1 r1 =>
        have := bools_rp r1 eb
        subst this
        exact ⟨_, bs, rfl, .inl (.inl (e _ _ h1)), k _ F H .id (.bl _)⟩
  · cases h
theorem rc_any : RLC K (rAny K) bAny := by
  intro F H xs as z Q e _ rx h k
  unfold bAny at h
  split at h
  · obtain ⟨x, rfl, r⟩ := rpA1 rx
    rename_i ds
    cases eb : bools ds with
    | none => rw [eb] at h; cases h
    | some bs =>
      rw [eb] at h
      cases h
      cases r with
      | lst h1 r1 =>
        have := bools_rp r1 eb
        subst this
        exact ⟨_, bs, rfl, .inl (.inl (e _ _ h1)), k _ F H .id (.bl _)⟩
  · cases h
theorem rc_list : RLC K (fun xs H Q => ∃ p ys, xs = [V.ref p] ∧ (SqL K H p ys ∨ SqT K H p ys) ∧ ∀ l, H l = none → Q (.ref l) (upd H l (.lst ys))) bList := by
  intro F H xs as z Q e f rx h k
  unfold bList at h
  split at h
  · obtain ⟨x, rfl, r⟩ := rpA1 rx
    cases h
    cases r with
    | lst h1 r1 => exact ⟨_, _, rfl, .inl (.inl (.inl (e _ _ h1))), fun l hl => k _ _ _ (.new hl) (.lst upd_same (r1.mono (same_new (f l hl))))⟩
  · obtain ⟨x, rfl, r⟩ := rpA1 rx
    cases h
    cases r with
    | tup h1 r1 => exact ⟨_, _, rfl, .inr (same_t e h1), fun l hl => k _ _ _ (.new hl) (.lst upd_same (r1.mono (same_new (f l hl))))⟩
  · cases h
theorem pd_gcd {x : Str} {p pos : Pos} {e : Expr} {es : List Expr} {ma : MA} (hm : X.mg x = some (.builtin "math.gcd")) (ha : PA X (e :: es) (tDA X.K C ma)) (hg : Gl X x := by rfl) (hdb : (x == ("__debug__" : Str)) = false := by decide)
    (he : starEach (e :: es) X.env = (false, eval e X.env) :: starEach es X.env := by rfl) (hpl : (backTo pos (starEach es X.env)).any (·.1) = false := by rfl) : PE X (.Call (.Name x p) (e :: es) [] pos) (tD X.K C (mCallB bGcd ma)) :=
  pe_imp (pe_callBfun cr_gcd hg hm ha hdb he hpl) (td_cb rc_gcd)
def kName : Ki → String
  | .kInt => "int" | .kBool => "bool" | .kStr => "str" | .kTup => "tuple" | .kLst => "list" | .kDict => "dict"
theorem kMeta (k : Ki) : bootBuiltins (Str.ofString (kName k)) = some (.type (kName k)) := by cases k <;> decide +kernel
def tyD : PyData → String
  | .none => "NoneType" | .bool _ => "bool" | .int _ => "int" | .str _ => "str" | .list _ => "list" | .tuple _ => "tuple" | .dict _ => "dict"
theorem ty_rp {F H : Hp} {x : V} {d : PyData} (e : Same F H) (r : Rp K F x d) : TyX K H x (.type (tyD d)) := by
  cases r with
  | non => exact .base .non
  | bl b => exact .base (.bl b)
  | int i => exact .base (.int i)
  | str z => exact .base (.str z)
  | lst h _ => exact .base (.lst (e _ _ h))
  | tup h _ =>
    rcases h with (h | ⟨o, h⟩) | ⟨o, its, n, h, c, _⟩
    · exact .base (.tup (e _ _ h))
    · exact .fTuple (e _ _ h)
    · exact .kTuple h c
  | dct h _ => exact .base (.dK (e _ _ h))
theorem kit_d (k : Ki) (d : PyData) : PySem.W.kitOne K (.type (tyD d)) (.type (kName k)) = some (isK k d) := by
  cases d <;> cases k <;> first | exact kit_ty (r := true) (by simp only [tyD, kName]; decide +kernel) | exact kit_ty (r := false) (by simp only [tyD, kName]; decide +kernel)
theorem kitAny_d (d : PyData) : ∀ ks : List Ki, PySem.W.kitAny K (.type (tyD d)) (ks.map fun k => .type (kName k)) = some (ks.any fun k => isK k d)
  | [] => kitAny_nil
  | k :: ks => by
    refine kitAny_cons (kit_d k d) (fun h => ?_) (fun h => ?_)
    · rw [List.any_cons, h, Bool.false_or]; exact kitAny_d d ks
    · rw [List.any_cons, h, Bool.true_or]
theorem pd_isi1 {p p2 pos : Pos} {e : Expr} {m : ME} {T : Str} (k : Ki) (hm : X.mg "isinstance" = none) (hT : X.mg T = none) (he : PE X e (tD X.K C m)) (hv : bootBuiltins T = some (.type (kName k)) := by decide +kernel)
    (hgI : Gl X "isinstance" := by rfl) (hgT : Gl X T := by rfl) (hn : T ≠ "__name__" := by decide) (hdb : (T == ("__debug__" : Str)) = false := by decide) (hpl : (backTo pos (starEach [.Name T p2] X.env)).any (·.1) = false := by rfl)
    (hs : starEach (e :: [.Name T p2]) X.env = (false, eval e X.env) :: starEach [.Name T p2] X.env := by rfl) :
    PE X (.Call (.Name "isinstance" p) [e, .Name T p2] [] pos) (tD X.K C (mOp1 (bIsi [k]) m)) :=
  pe_imp (pe_callB call_isi hgI hm (by decide +kernel) (pa_cons he (pa_cons (pe_bltn (v := .ty (kName k)) hgT hT hv rfl hn hdb) pa_nil) hs) (by decide) (by decide) hs hpl) (by
    rintro σ H Q ⟨F, sd, Qd, R, h, kk⟩
    refine ⟨F, sd, _, R, h, fun x H1 F1 a sd1 R1 S1 rx h1 => ?_⟩
    obtain ⟨z, ez, q⟩ := h1
    cases ez
    have h2 := kitAny_d (K := X.K) a [k]
    refine ⟨x, .ty (kName k), .type (tyD a), .type (kName k), [k].any fun k => isK k a, rfl, .ty _, ty_rp R1.ext rx, ?_, kk (.bl _) H1 F1 _ sd1 R1 S1 (.bl _) q⟩
    rw [kit_d]
    show some (isK k a) = some (isK k a || false)
    rw [Bool.or_false])
theorem vals_ki : ∀ ks : List Ki, Paired ClsV (ks.map fun k => V.ty (kName k)) (ks.map fun k => Value.type (kName k))
  | [] => .nil
  | _ :: ks => .cons (.ty _) (vals_ki ks)
/-- isinstance(x, (T1, T2, ..)) -/
theorem pd_isiT {p pos : Pos} {e tupE : Expr} {m : ME} (ks : List Ki) (hm : X.mg "isinstance" = none) (he : PE X e (tD X.K C m)) (ht : PE X tupE (fun σ H Q => ∀ q, H q = none → Q (.ref q) (upd H q (.tup (ks.map fun k => V.ty (kName k))))))
    (hgI : Gl X "isinstance" := by rfl) (hpl : (backTo pos (starEach [tupE] X.env)).any (·.1) = false := by rfl)
    (hs : starEach (e :: [tupE]) X.env = (false, eval e X.env) :: starEach [tupE] X.env := by rfl) (hs2 : starEach (tupE :: []) X.env = (false, eval tupE X.env) :: starEach [] X.env := by rfl) :
    PE X (.Call (.Name "isinstance" p) [e, tupE] [] pos) (tD X.K C (mOp1 (bIsi ks) m)) :=
  pe_imp (pe_callB call_isiT hgI hm (by decide +kernel) (pa_cons he (pa_cons ht pa_nil hs2) hs) (by decide) (by decide) hs hpl) (by
    rintro σ H Q ⟨F, sd, Qd, R, h, kk⟩
    refine ⟨F, sd, _, R, h, fun x H1 F1 a sd1 R1 S1 rx h1 => fun q hq => ?_⟩
    obtain ⟨z, ez, qq⟩ := h1
    cases ez
    have R2 := R1.allocH (o := .tup (ks.map fun k => V.ty (kName k))) hq
    refine ⟨x, q, _, .type (tyD a), _, _, rfl, upd_same, vals_ki ks, ty_rp (fun b o e => same_new hq b o (R1.ext b o e)) rx, kitAny_d a ks, ?_⟩
    refine kk (.bl _) _ F1 _ sd1 R2 (S1.trans ⟨Same.refl _, fun b o e _ => same_new hq b o e, fun _ z => z, fun _ _ z => .inl z, fun b e => ?_⟩) (.bl _) qq
    by_cases zb : b = q
    · subst zb; exact hq
    · rw [upd_ne zb] at e; exact e)
theorem pe_types {es : List Expr} {x1} {pos : Pos} {vs : List V} (h : PA X es (fun _ H Q => Q vs H)) (hl : vs.length ≤ 100) : PE X (.Tuple es x1 pos) (fun σ H Q => ∀ q, H q = none → Q (.ref q) (upd H q (.tup vs))) :=
  pe_imp (pe_tup h) fun σ H Q q => ⟨Nat.le_trans hl (by decide), q⟩
theorem pa_types {es : List Expr} {T : Str} {p2 : Pos} {vs : List V} (k : Ki) (hT : X.mg T = none) (h : PA X es (fun _ H Q => Q vs H)) (hv : bootBuiltins T = some (.type (kName k)) := by decide +kernel) (hgT : Gl X T := by rfl) (hn : T ≠ "__name__" := by decide)
    (hdb : (T == ("__debug__" : Str)) = false := by decide) (hs : starEach (.Name T p2 :: es) X.env = (false, eval (.Name T p2) X.env) :: starEach es X.env := by rfl) : PA X (.Name T p2 :: es) (fun _ H Q => Q (V.ty (kName k) :: vs) H) :=
  pa_imp (pa_cons (pe_bltn (v := .ty (kName k)) hgT hT hv rfl hn hdb) h hs) fun σ H Q q => q
theorem pa_types0 : PA X [] (fun _ H Q => Q [] H) := pa_imp pa_nil fun σ H Q q => q
theorem cut_rpA {F : Hp} {vs : List V} {ds : List PyData} (r : RpA K F vs ds) (lo hi : Option Int) : RpA K F (cutV vs lo hi) (cutL ds lo hi) := by
  have e : ∀ o n d, HT.sIx n d o = DL.sIx n d o := fun o n d => by cases o <;> rfl
  unfold cutV cutL
  rw [r.length, e, e]
  exact (r.drop _).take _
abbrev rSlX (K : PySem.W.Frag) : V → Option Int → Option Int → Hp → VK → Prop := fun x lo hi H Q => (rSlL K x lo hi H Q ∨ rSlA K x lo hi H Q) ∨ rSlS x lo hi H Q
theorem sl_any : SlR X (rSlX X.K) := slR_or (slR_or sl_list sl_tupA) sl_str
theorem whole_cut {α : Type} (xs : List α) (lo hi : Option Int) (h : DL.sIx xs.length 0 lo = 0 ∧ DL.sIx xs.length xs.length hi = xs.length) : cutL xs lo hi = xs := by
  unfold cutL
  rw [h.1, h.2]
  simp
theorem rl_sl : ∀ (F H : Hp) (x : V) (a z : PyData) (lo hi : Option Int) (Q : VK), Same F H → (∀ p, H p = none → F p = none) → Rp K F x a → opSl a lo hi = some z → (∀ v F' H', Al F H F' H' → Rp K F' v z → Q v H') → rSlX K x lo hi H Q := by
  intro F H x a z lo hi Q e f rx h k
  have es : ∀ o n d, HT.sIx n d o = DL.sIx n d o := fun o n d => by cases o <;> rfl
  unfold opSl at h
  split at h
  · cases h
    cases rx with
    | lst h1 r1 => exact .inl (.inl ⟨_, _, rfl, .inl (.inl (e _ _ h1)), fun p hp => k _ _ _ (.new hp) (.lst upd_same ((cut_rpA r1 lo hi).mono (same_new (f p hp))))⟩)
  · cases h
    cases rx with
    | @tup a' xs ds h1 r1 =>
      refine .inl (.inr ⟨_, _, rfl, same_t e h1, fun hw => ?_, fun _ p hp => k _ _ _ (.new hp) (.tup (.inl (.inl upd_same)) ((cut_rpA r1 lo hi).mono (same_new (f p hp))))⟩)
      rw [r1.length, es, es] at hw
      rw [whole_cut _ lo hi hw] at k
      exact k _ F H .id (.tup h1 r1)
  · split at h
    · rename_i z' hl
      cases h
      cases rx
      refine .inr ⟨_, rfl, line_of hl, ?_⟩
      have : cutS z' lo hi = ⟨(cutL z'.cps.toList lo hi).toArray⟩ := by
        unfold cutS cutL
        rw [es, es]
        have : z'.cps.toList.length = z'.length := by simp [Str.length]
        rw [this]
      rw [this]
      exact k _ F H .id (.str _)
    · cases h
  · cases h
theorem hpart {me : ME} : ∀ σ H Q F sd Qd, Rs K C F H σ sd → mPart me sd Qd → (∀ o H' F' sd', Rs K C F' H' σ sd' → Stp σ sd F H F' H' sd' → Qd o sd' → Q o H') → tPart (tD K C me) σ H Q := by
  intro σ H Q F sd Qd R h k
  refine ⟨F, sd, _, R, h, fun v H' F' d sd' R' S r q => ?_⟩
  obtain ⟨i, rfl, q⟩ := q
  cases r
  exact ⟨i, rfl, k (some i) H' F' sd' R' S q⟩
theorem hnopart : ∀ σ H Q F sd Qd, Rs K C F H σ sd → mNoPart sd Qd → (∀ o H' F' sd', Rs K C F' H' σ sd' → Stp σ sd F H F' H' sd' → Qd o sd' → Q o H') → tNoPart σ H Q :=
  fun σ H Q F sd Qd R h k => k none H F sd R .refl h
/-- x[a:b] -/
theorem pd_sl2 {e lo hi : Expr} {p2 pos : Pos} {me ml mh : ME} (he : PE X e (tD X.K C me)) (hl : PE X lo (tD X.K C ml)) (hh : PE X hi (tD X.K C mh)) : PE X (.Subscript e (.Slice (some lo) (some hi) none p2) pos) (tD X.K C (mSl opSl me (mPart ml) (mPart mh))) :=
  pd_slice rl_sl hpart hpart (pe_slice sl_any he (po_some hl) (po_some hh))
theorem pd_slA {e lo : Expr} {p2 pos : Pos} {me ml : ME} (he : PE X e (tD X.K C me)) (hl : PE X lo (tD X.K C ml)) : PE X (.Subscript e (.Slice (some lo) none none p2) pos) (tD X.K C (mSl opSl me (mPart ml) mNoPart)) :=
  pd_slice rl_sl hpart hnopart (pe_slice sl_any he (po_some hl) po_none)
theorem pd_slB {e hi : Expr} {p2 pos : Pos} {me mh : ME} (he : PE X e (tD X.K C me)) (hh : PE X hi (tD X.K C mh)) : PE X (.Subscript e (.Slice none (some hi) none p2) pos) (tD X.K C (mSl opSl me mNoPart (mPart mh))) :=
  pd_slice rl_sl hnopart hpart (pe_slice sl_any he po_none (po_some hh))
end
end DL
namespace DL
open PySem PySem.Spec PyProof.Rows L2
section
variable {K : PySem.W.Frag} {X : Cx} {C : Ct}
theorem pdg_name {i : Nat} {x : Str} {pos : Pos} (hN : X.N.Nodup) (hi : X.N[i]? = some x) (hx : Loc X.env.scope x) (hf : X.fn x = true ∨ X.env.scope.names.lookup x = some .local := by first | exact .inl rfl | exact .inr rfl) :
    PG X (.Name x pos) (tDG X.K C (mgName i)) := pg_imp (pg_name hN hi hx hf) (by
  rintro v σ H Q ⟨F, sd, d, Qd, R, r, h, k⟩
  exact k _ _ (R.setva r) h)
theorem pdgs_nil : PGs X [] (tDGs X.K C mgNil) := pgs_imp pgs_nil (by
  rintro v σ H Q ⟨F, sd, ds, Qd, R, r, h, k⟩
  obtain ⟨e, h⟩ := h
  subst e
  cases r
  exact ⟨rfl, k _ _ R h⟩)
theorem pdgs_cons {e : Expr} {es : List Expr} {g : MG} {gs : MGs} (h1 : PG X e (tDG X.K C g)) (h2 : PGs X es (tDGs X.K C gs)) (t : PGs X (e :: es) (gCons (tDG X.K C g) (tDGs X.K C gs))) : PGs X (e :: es) (tDGs X.K C (mgCons g gs)) := pgs_imp t (by
  rintro v σ H Q ⟨F, sd, ds, Qd, R, r, h, k⟩
  obtain ⟨d, rest, e, h⟩ := h
  subst e
  cases r with
  | cons r1 r2 => exact ⟨_, _, rfl, F, sd, d, _, R, r1, h, fun σ' sd' R' q => ⟨F, sd', rest, Qd, R', r2, q, k⟩⟩)
theorem td_tup {n : Nat} {gs : MGs} : ∀ v σ H Q, tDG K C (mgTup n gs) v σ H Q → (gTup K n (tDGs K C gs) v σ H Q ∨ gLst K n (tDGs K C gs) v σ H Q) := by
  rintro v σ H Q ⟨F, sd, d, Qd, R, r, h, k⟩
  obtain ⟨ds, hd, hl, h⟩ := h
  cases r with
  | tup h1 r1 =>
    cases hd
    exact .inl ⟨_, _, rfl, same_t R.ext h1, by rw [r1.length]; exact hl, F, sd, _, Qd, R, r1, h, k⟩
  | lst h1 r1 =>
    cases hd
    exact .inr ⟨_, _, rfl, .inl (.inl (R.ext _ _ h1)), by rw [r1.length]; exact hl, F, sd, _, Qd, R, r1, h, k⟩
  | _ => cases hd
theorem pdg_tup {es : List Expr} {kk : Nat} {pos : Pos} {gs : MGs} {n : Nat} (hc : X.calm = true) (h : PGs X es (tDGs X.K C gs)) (hn : (assignEach es X.env).length = n := by rfl) (hst : (assignEach es X.env).findIdx? (·.1) = none := by rfl) :
    PG X (.Tuple es kk pos) (tDG X.K C (mgTup n gs)) := pg_imp (pg_or (pg_tup hc h hn hst) (pg_lst hc h hn hst)) td_tup
theorem rpA_at {F : Hp} {vs : List V} {ds : List PyData} {i : Nat} {x : V} (r : RpA K F vs ds) (h : vs[i]? = some x) : ∃ d, ds[i]? = some d ∧ Rp K F x d := by
  have hl := (List.getElem?_eq_some_iff.mp h).1
  rw [r.length] at hl
  obtain ⟨v, e, q⟩ := r.get (i := i) (d := ds[i]) (by simp [hl])
  rw [h] at e; cases e
  exact ⟨_, by simp [hl], q⟩
theorem wk_list {a : Addr} {xs : List V} {F : Hp} {ds : List PyData} (h : SqL K F a xs) (r : RpA K F xs ds) : Wk K (Itl K a) F ds := by
  refine ⟨_, _, r.length ▸ walk_list, fun H e => e.seq h, fun i H x H' F' hi e1 e2 y => ?_⟩
  obtain ⟨rfl, y⟩ := y
  obtain ⟨d, hd, q⟩ := rpA_at r y
  exact ⟨F', d, .id, hd, q.mono e1⟩
theorem wk_tup {a : Addr} {xs : List V} {F : Hp} {ds : List PyData} (h : SqT K F a xs) (r : RpA K F xs ds) : Wk K (Itt K a) F ds := by
  refine ⟨_, _, r.length ▸ walk_tup, fun H e => same_t e h, fun i H x H' F' hi e1 e2 y => ?_⟩
  obtain ⟨rfl, y⟩ := y
  obtain ⟨d, hd, q⟩ := rpA_at r y
  exact ⟨F', d, .id, hd, q.mono e1⟩
theorem pi_or {tg e : Expr} {t t' : TI} (h : PI X tg e t) (h' : PI X tg e t') : PI X tg e (fun σ H R => t σ H R ∨ t' σ H R) :=
  ⟨fun pins s σ H R I q => q.elim (h.run pins s σ H R I) (h'.run pins s σ H R I)⟩
/-- over a value that is a list or a tuple: the reading chooses when the value is there -/
def iSeq (K : PySem.W.Frag) (te : TE) : TI := fun σ H R => te σ H fun x H1 => ∃ a, x = .ref a ∧ (((∃ xs, SqL K H1 a xs) ∧ R (Itl K a) H1) ∨ ((∃ xs, SqT K H1 a xs) ∧ R (Itt K a) H1))
theorem pi_seq {tg l : Expr} {tl : TE} (hl : PE X l tl) : PI X tg l (iSeq X.K tl) := by
  refine ⟨fun pins s σ H R I h => thn (hl.run pins s σ H _ I h) fun v s1 hv => ?_⟩
  obtain ⟨x, H1, I1, r1, a, rfl, hq⟩ := hv
  cases r1
  have fresh : FpOk X pins H1 s1.heap.objs.size := I1.fpOk (Nat.le_refl _) (I1.hok.fresh (Nat.le_refl _))
  rcases hq with ⟨⟨xs, hq⟩, q⟩ | ⟨⟨xs, hq⟩, q⟩
  · obtain ⟨its, rv, p, hz⟩ := I1.list hq
    refine wpAny_pyIter_list p.isList ⟨_, [s1.heap.objs.size], _, _, H1, rfl, I1.kept (t' := s1.toks) fun _ _ e => Heap.get?_push_of_some _ e, turn_list a _, ?_, fun b hb => ?_, q⟩
    · exact ⟨_, Heap.get?_push_size _ rfl, rfl, rfl⟩
    · rw [List.mem_singleton.mp hb]; exact fresh
  · obtain ⟨its, rv, p, hz⟩ := I1.tuple hq
    refine wpAny_pyIter_tuple (show s1.heap.IsTuple a its.toArray from p) ⟨_, [s1.heap.objs.size], _, _, H1, rfl, I1.kept (t' := s1.toks) fun _ _ e => Heap.get?_push_of_some _ e, turn_tuple a _, ?_, fun b hb => ?_, q⟩
    · exact ⟨_, Heap.get?_push_size _ rfl, rfl, rfl⟩
    · rw [List.mem_singleton.mp hb]; exact fresh
theorem pdi_seq {tg e : Expr} {m : ME} (h : PE X e (tD X.K C m)) : PI X tg e (tDI X.K C (miSeq m)) := pi_imp (pi_seq h) (by
  rintro σ H R0 ⟨F, sd, Qd, R, h, k⟩
  refine ⟨F, sd, _, R, h, fun x H1 F1 a sd1 R1 S1 rx h1 => ?_⟩
  obtain ⟨ds, hd, q⟩ := h1
  cases rx with
  | tup h2 r2 => cases hd; exact ⟨_, rfl, .inr ⟨⟨_, same_t R1.ext h2⟩, k _ H1 F1 _ sd1 R1 S1 (wk_tup h2 r2) q⟩⟩
  | lst h2 r2 => cases hd; exact ⟨_, rfl, .inl ⟨⟨_, .inl (.inl (R1.ext _ _ h2))⟩, k _ H1 F1 _ sd1 R1 S1 (wk_list (.inl (.inl h2)) r2) q⟩⟩
  | _ => cases hd)
theorem wk_range {F : Hp} {lo : Int} {n : Nat} : Wk K (Itr lo n) F (rangeL lo n) := by
  have hl : (rangeL lo n).length = n := by simp [rangeL]
  refine ⟨fun _ => True, YFn fun i => .int (lo + i), by rw [hl]; exact walk_range, fun _ _ => trivial, fun i H x H' F' hi e1 e2 y => ?_⟩
  obtain ⟨rfl, rfl⟩ := y
  refine ⟨F', _, .id, ?_, .int _⟩
  unfold rangeL
  rw [List.getElem?_map, List.getElem?_range (by rw [hl] at hi; exact hi)]
  rfl
theorem pdi_range1 {tg a : Expr} {p pos : Pos} {m : MA} (hm : X.mg "range" = none) (h : PA X [a] (tDA X.K C m)) (hg : Gl X "range" := by rfl) (t : PI X tg (.Call (.Name "range" p) [a] [] pos) (iRng1 (tDA X.K C m))) : PI X tg (.Call (.Name "range" p) [a] [] pos) (tDI X.K C (miRng1 m)) := pi_imp t (by
  rintro σ H R0 ⟨F, sd, Qd, R, h, k⟩
  refine ⟨F, sd, _, R, h, fun vs H1 F1 ds sd1 R1 S1 rs q => ?_⟩
  obtain ⟨j, rfl, l1, l2, q⟩ := q
  obtain ⟨x, rfl, r⟩ := rpA1 rs
  cases r
  exact ⟨j, rfl, l1, l2, k _ H1 F1 _ sd1 R1 S1 wk_range q⟩)
theorem pdi_range2 {tg a b : Expr} {p pos : Pos} {m : MA} (hm : X.mg "range" = none) (h : PA X [a, b] (tDA X.K C m)) (hg : Gl X "range" := by rfl) (t : PI X tg (.Call (.Name "range" p) [a, b] [] pos) (iRng2 (tDA X.K C m))) : PI X tg (.Call (.Name "range" p) [a, b] [] pos) (tDI X.K C (miRng2 m)) := pi_imp t (by
  rintro σ H R0 ⟨F, sd, Qd, R, h, k⟩
  refine ⟨F, sd, _, R, h, fun vs H1 F1 ds sd1 R1 S1 rs q => ?_⟩
  obtain ⟨i, j, rfl, l, q⟩ := q
  obtain ⟨x, y, rfl, r, r'⟩ := rpA2 rs
  cases r; cases r'
  exact ⟨i, j, rfl, l, k _ H1 F1 _ sd1 R1 S1 wk_range q⟩)
theorem pdi_str {tg e : Expr} {m : ME} (h : PE X e (tD X.K C m)) : PI X tg e (tDI X.K C (miStr m)) := pi_imp (pi_str h) (by
  rintro σ H R0 ⟨F, sd, Qd, R, h, k⟩
  refine ⟨F, sd, _, R, h, fun x H1 F1 a sd1 R1 S1 rx h1 => ?_⟩
  obtain ⟨z, rfl, q⟩ := h1
  cases rx
  refine ⟨z, rfl, k _ H1 F1 _ sd1 R1 S1 ?_ q⟩
  have hl : (signsD z).length = z.cps.size := by simp [signsD]
  refine ⟨fun _ => True, fun i H v H' => H' = H ∧ ∃ c, z.cps[i]? = some c ∧ v = .str ⟨#[c]⟩, by rw [hl]; exact walk_str, fun _ _ => trivial, fun i H x H' F' hi e1 e2 y => ?_⟩
  obtain ⟨rfl, c, hc, rfl⟩ := y
  refine ⟨F', _, .id, ?_, .str _⟩
  unfold signsD
  rw [List.getElem?_map, Array.getElem?_toList, hc]
  rfl)
theorem enumL_get : ∀ (ds : List PyData) (k i : Nat), (enumL k ds)[i]? = ds[i]?.map fun d => .tuple [.int ((k + i : Nat) : Int), d]
  | [], _, _ => rfl
  | d :: ds, k, 0 => rfl
  | d :: ds, k, i + 1 => by
    show (enumL (k + 1) ds)[i]? = _
    rw [enumL_get ds (k + 1) i, show k + 1 + i = k + (i + 1) by omega]
    rfl
theorem pair_al {F H H' : Hp} {T : Addr} {x y : V} {d e : PyData} (hT : H T = none) (e2 : Same F H) (hH : H' = upd H T (.tup [x, y])) (r1 : Rp K F x d) (r2 : Rp K F y e) : ∃ F', Al F H F' H' ∧ Rp K F' (.ref T) (.tuple [d, e]) := by
  subst hH
  have s := same_new (o := .tup [x, y]) (free_of e2 hT)
  exact ⟨_, .new hT, .tup (.inl (.inl upd_same)) (.cons (r1.mono s) (.cons (r2.mono s) .nil))⟩
theorem pdi_enum {elts : List Expr} {kk : Nat} {tpos : Pos} {e : Expr} {p pos : Pos} {m : MA} (t : PI X (.Tuple elts kk tpos) (.Call (.Name "enumerate" p) [e] [] pos) (iEnum X.K (tDA X.K C m))) :
    PI X (.Tuple elts kk tpos) (.Call (.Name "enumerate" p) [e] [] pos) (tDI X.K C (miEnum m)) := pi_imp t (by
  rintro σ H R0 ⟨F, sd, Qd, R, h, k⟩
  refine ⟨F, sd, _, R, h, fun vs H1 F1 ds sd1 R1 S1 rs q => ?_⟩
  obtain ⟨xs, rfl, q⟩ := q
  obtain ⟨x, rfl, r⟩ := rpA1 rs
  cases r with
  | @lst a ys _ h2 r2 =>
    refine ⟨_, _, rfl, .inl (.inl (R1.ext _ _ h2)), k _ H1 F1 _ sd1 R1 S1 ?_ q⟩
    have hl : (enumL 0 xs).length = ys.length := by
      rw [r2.length]
      have : ∀ (l : List PyData) n, (enumL n l).length = l.length := fun l => by
        induction l with
        | nil => intro _; rfl
        | cons d l ih => intro n; simp [enumL, ih]
      exact this xs 0
    refine ⟨fun H => SqL X.K H a ys, YPair (fun i => some (.int (i : Nat))) (fun i => ys[i]?), by rw [hl]; exact walk_enum, fun H e => .inl (.inl (e _ _ h2)), fun i H x H' F' hi e1 e2 y => ?_⟩
    obtain ⟨T, x1, x2, rfl, hT, hH, y1, y2⟩ := y
    cases y1
    obtain ⟨d, hd, rd⟩ := rpA_at r2 y2
    obtain ⟨F2, al, rr⟩ := pair_al hT e2 hH (.int (i : Int)) (rd.mono e1)
    refine ⟨F2, _, al, ?_, rr⟩
    rw [enumL_get, hd]
    simp)
theorem zipL_get : ∀ (xs ys : List PyData) (i : Nat) {x y : PyData}, xs[i]? = some x → ys[i]? = some y → (zipL xs ys)[i]? = some (.tuple [x, y])
  | x :: xs, y :: ys, 0, _, _, h1, h2 => by cases h1; cases h2; rfl
  | x :: xs, y :: ys, i + 1, _, _, h1, h2 => zipL_get xs ys i h1 h2
  | [], _, _, _, _, h1, _ => by simp at h1
  | _ :: _, [], _, _, _, _, h2 => by simp at h2
theorem zipL_len : ∀ (xs ys : List PyData), (zipL xs ys).length = min xs.length ys.length
  | x :: xs, y :: ys => by simp [zipL, zipL_len xs ys]
  | [], _ => by simp [zipL]
  | _ :: _, [] => by simp [zipL]
theorem walk_zipT {a b : Addr} {xs ys : List V} : Walk (RZ.ItzT K a b) (min xs.length ys.length) (fun H => SqT K H a xs ∧ SqT K H b ys) (YPair (fun i => xs[i]?) (fun i => ys[i]?)) := by
  refine ⟨fun i _ hi q => ?_, fun _ q => ⟨xs, ys, q.1, q.2, by omega⟩, fun i H v H' _ q y => ?_⟩
  · exact ⟨xs, ys, xs[i]'(by omega), ys[i]'(by omega), q.1, q.2, by simp [show i < xs.length by omega], by simp [show i < ys.length by omega]⟩
  · obtain ⟨T, x, z, h1, h2, h3, h4, h5⟩ := y
    exact ⟨T, x, z, h1, h2, h3, h4 xs q.1, h5 ys q.2⟩
theorem wk_pairs {J : It} {F : Hp} {xs ys : List V} {ds es : List PyData} {G : Hp → Prop} (hG : ∀ H, Same F H → G H) (w : Walk J (min xs.length ys.length) G (YPair (fun i => xs[i]?) (fun i => ys[i]?))) (r1 : RpA K F xs ds) (r2 : RpA K F ys es) : Wk K J F (zipL ds es) := by
  have hl : (zipL ds es).length = min xs.length ys.length := by rw [zipL_len, r1.length, r2.length]
  refine ⟨G, YPair (fun i => xs[i]?) (fun i => ys[i]?), by rw [hl]; exact w, hG, fun i H x H' F' hi e1 e2 y => ?_⟩
  obtain ⟨T, x1, x2, rfl, hT, hH, y1, y2⟩ := y
  obtain ⟨d, hd, rd⟩ := rpA_at r1 y1
  obtain ⟨e, he, re⟩ := rpA_at r2 y2
  obtain ⟨F2, al, rr⟩ := pair_al hT e2 hH (rd.mono e1) (re.mono e1)
  exact ⟨F2, _, al, zipL_get ds es i hd he, rr⟩
theorem pdi_zip {elts : List Expr} {kk : Nat} {tpos : Pos} {e e2 : Expr} {p pos : Pos} {m : MA} (t : PI X (.Tuple elts kk tpos) (.Call (.Name "zip" p) [e, e2] [] pos) (RZ.iZipA X.K (tDA X.K C m))) :
    PI X (.Tuple elts kk tpos) (.Call (.Name "zip" p) [e, e2] [] pos) (tDI X.K C (miZip m)) := pi_imp t (by
  rintro σ H R0 ⟨F, sd, Qd, R, h, k⟩
  refine ⟨F, sd, _, R, h, fun vs H1 F1 ds sd1 R1 S1 rs q => ?_⟩
  obtain ⟨xs, ys, hd, q⟩ := q
  rcases hd with rfl | rfl
  · obtain ⟨x, y, rfl, r, r'⟩ := rpA2 rs
    cases r with
    | lst h2 r2 =>
      cases r' with
      | lst h3 r3 => exact ⟨_, _, _, _, rfl, .inl ⟨.inl (.inl (R1.ext _ _ h2)), .inl (.inl (R1.ext _ _ h3)), k _ H1 F1 _ sd1 R1 S1 (wk_pairs (fun H e => ⟨.inl (.inl (e _ _ h2)), .inl (.inl (e _ _ h3))⟩) (walk_zip rfl) r2 r3) q⟩⟩
  · obtain ⟨x, y, rfl, r, r'⟩ := rpA2 rs
    cases r with
    | tup h2 r2 =>
      cases r' with
      | tup h3 r3 => exact ⟨_, _, _, _, rfl, .inr ⟨same_t R1.ext h2, same_t R1.ext h3, k _ H1 F1 _ sd1 R1 S1 (wk_pairs (fun H e => ⟨same_t e h2, same_t e h3⟩) walk_zipT r2 r3) q⟩⟩)
theorem pds_nil : PSs X [] (tDS X.K C mNext) := pss_imp pss_nil (by
  rintro D σ H ⟨F, sd, Dd, R, E, h⟩
  exact E.nx F H σ sd (Same.refl _) R h)
theorem pds_cons {st : Stmt} {rest : List Stmt} {a b : MS} (h1 : PS X st (tDS X.K C a)) (h2 : PSs X rest (tDS X.K C b)) : PSs X (st :: rest) (tDS X.K C (mSeq a b)) := pss_imp (pss_cons h1 h2) (by
  rintro D σ H ⟨F, sd, Dd, R, E, h⟩
  exact ⟨F, sd, { Dd with nx := b Dd }, R, ⟨fun F1 H1 σ1 sd1 e R1 q => ⟨F1, sd1, Dd, R1, E.mono e, q⟩, E.rt, E.bk, E.ct⟩, h⟩)
theorem pds_one {st : Stmt} {a : MS} (h : PS X st (tDS X.K C a)) : PSs X [st] (tDS X.K C a) := pss_one h
theorem pds_pass {pos : Pos} : PS X (.Pass pos) (tDS X.K C mNext) := ps_imp ps_pass (by
  rintro D σ H ⟨F, sd, Dd, R, E, h⟩
  exact E.nx F H σ sd (Same.refl _) R h)
theorem pds_break {pos : Pos} : PS X (.Break pos) (tDS X.K C mBreak) := ps_imp ps_break (by
  rintro D σ H ⟨F, sd, Dd, R, E, h⟩
  exact E.bk F H σ sd (Same.refl _) R h)
theorem pds_cont {pos : Pos} : PS X (.Continue pos) (tDS X.K C mCont) := ps_imp ps_continue (by
  rintro D σ H ⟨F, sd, Dd, R, E, h⟩
  exact E.ct F H σ sd (Same.refl _) R h)
theorem td_asg {me : ME} {mg : MG} : ∀ D σ H, tDS K C (mAsg me mg) D σ H → tAsg (tD K C me) (tDG K C mg) D σ H := by
  rintro D σ H ⟨F, sd, Dd, R, E, h⟩
  exact ⟨F, sd, _, R, h, fun v H1 F1 d sd1 R1 S1 r q => ⟨F1, sd1, d, Dd.nx, R1, r, q, fun σ2 sd2 R2 q2 => E.nx F1 H1 σ2 sd2 S1.fr R2 q2⟩⟩
theorem pds_asg {tg e : Expr} {pos : Pos} {me : ME} {mg : MG} (t : PS X (.Assign [tg] e pos) (tAsg (tD X.K C me) (tDG X.K C mg))) : PS X (.Assign [tg] e pos) (tDS X.K C (mAsg me mg)) := ps_imp t td_asg
theorem td_asgR {i : Nat} {mr : MR} : ∀ D σ H, tDS K C (mAsgR i mr) D σ H → tAsg (tDR K C mr) (gName i) D σ H := by
  rintro D σ H ⟨F, sd, Dd, R, E, h⟩
  exact ⟨F, sd, _, R, h, fun v H1 F1 r sd1 R1 S1 rv fre new q => E.nx F1 H1 _ _ S1.fr (R1.setr rv fre) q⟩
theorem pds_asgR {tg e : Expr} {pos : Pos} {i : Nat} {mr : MR} (t : PS X (.Assign [tg] e pos) (tAsg (tDR X.K C mr) (gName i))) : PS X (.Assign [tg] e pos) (tDS X.K C (mAsgR i mr)) := ps_imp t td_asgR
theorem pds_if {c : Expr} {a b : List Stmt} {t : MT} {ma mb : MS} {pos : Pos} (hc : PT X c (tDT X.K C t)) (ha : PSs X a (tDS X.K C ma)) (hb : PSs X b (tDS X.K C mb)) : PS X (.If c a b pos) (tDS X.K C (mIf t ma mb)) := ps_imp (ps_if hc ha hb) (by
  rintro D σ H ⟨F, sd, Dd, R, E, h⟩
  refine ⟨F, sd, _, R, h, fun b H1 F1 sd1 R1 S1 q => ?_⟩
  cases b with
  | true => exact ⟨F1, sd1, Dd, R1, E.mono S1.fr, q⟩
  | false => exact ⟨F1, sd1, Dd, R1, E.mono S1.fr, q⟩)
theorem pds_ret {e : Expr} {mr : MR} {pos : Pos} (he : PE X e (tDR X.K C mr)) : PS X (.Return (some e) pos) (tDS X.K C (mRet mr)) := ps_imp (ps_ret he) (by
  rintro D σ H ⟨F, sd, Dd, R, E, h⟩
  exact ⟨F, sd, _, R, h, fun v H1 F1 r sd1 R1 S1 rv fre new q => E.rt F1 H1 σ sd1 v r S1.fr R1 rv (fun o q' e => R.still q' (new o q' e)) q⟩)
theorem pds_retN {pos : Pos} : PS X (.Return none pos) (tDS X.K C mRetN) := ps_imp ps_retN (by
  rintro D σ H ⟨F, sd, Dd, R, E, h⟩
  exact E.rt F H σ sd .non (.va .none) (Same.refl _) R ⟨_, rfl, .non⟩ (fun z => nomatch z) h)
theorem pds_drop {e : Expr} {me : ME} {pos : Pos} (he : PE X e (tD X.K C me)) (hs : swapsWith e none pos.line X.env = pure false := by rfl) : PS X (.Expr e pos) (tDS X.K C (mDrop me)) := ps_imp (ps_expr he hs) (by
  rintro D σ H ⟨F, sd, Dd, R, E, h⟩
  exact ⟨F, sd, _, R, h, fun v H1 F1 d sd1 R1 S1 r q => E.nx F1 H1 σ sd1 S1.fr R1 q⟩)
theorem pds_doc {x j pos pos'} : PS X (.Expr (.Constant (.str x) j pos) pos') (tDS X.K C mNext) := ps_imp ps_doc (by
  rintro D σ H ⟨F, sd, Dd, R, E, h⟩
  exact E.nx F H σ sd (Same.refl _) R h)
theorem Rs.setOwn {F H : Hp} {σ : L2.St} {sd : DSt} (R : Rs K C F H σ sd) {i : Nat} {ds ds' : List PyData} {p : Addr} {vs' : List V} (h : sget sd i = .own ds) (e : gv σ i = some (.ref p)) (r : RpA K F vs' ds') : Rs K C F (upd H p (.lst vs')) σ (sset sd i (.own ds')) := by
  have hi := R.slot i
  rw [h] at hi
  obtain ⟨p', vs, e1, e2, e3, e4, r0⟩ := hi
  rw [e] at e1; cases e1
  have hl : i < sd.length := R.lt_of_own (by rw [h]; intro z; cases z)
  have other : ∀ j q, j ≠ i → isOwn (sget sd j) = true → gv σ j = some (.ref q) → q ≠ p := fun j q hj ho eq z => by
    subst z
    exact R.sep i j q (Ne.symm hj) (by rw [h]; rfl) ho e eq
  refine ⟨by rw [sset_length]; exact R.len, R.grow, fun a x q => ?_, R.new, fun a x q n => ?_, fun a q => ?_, fun j => ?_, fun j k q hjk o1 o2 z1 => ?_⟩
  · have : a ≠ p := fun z => by subst z; rw [e3] at q; cases q
    rw [upd_ne this]; exact R.ext a x q
  · have : a ≠ p := fun z => by subst z; rw [e4] at q; cases q
    rw [upd_ne this]; exact R.keep a x q n
  · by_cases z : a = p
    · subst z; exact e4
    · rw [upd_ne z] at q; exact R.still a q
  · by_cases hj : j = i
    · subst hj; rw [sget_sset hl]; exact ⟨p, vs', e, upd_same, e3, e4, r⟩
    · rw [sget_sset_ne hj]
      exact (R.slot j).grow (Same.refl _) fun q x ho eq eh en => ⟨by rw [upd_ne (other j q hj ho eq)]; exact eh, en⟩
  · have own_of : ∀ m, isOwn (sget (sset sd i (.own ds')) m) = true → isOwn (sget sd m) = true := fun m o => by
      by_cases hm : m = i
      · subst hm; rw [h]; rfl
      · rw [sget_sset_ne hm] at o; exact o
    exact R.sep j k q hjk (own_of j o1) (own_of k o2) z1
/-- x.append(e), x a slot that owns its list -/
theorem pds_app {i : Nat} {x : Str} {p apos cpos pos : Pos} {e : Expr} {me : ME}
    (t : PS X (.Expr (.Call (.Attribute (.Name x p) "append" apos) [e] [] cpos) pos) (tDrop (tBM X.K "list" rAppend (tVar i) (tCons (tD X.K C me) tNil)))) :
    PS X (.Expr (.Call (.Attribute (.Name x p) "append" apos) [e] [] cpos) pos) (tDS X.K C (mApp i me)) := ps_imp t (by
  rintro D σ H ⟨F, sd, Dd, R, E, ⟨ds0, h0⟩, h⟩
  have hi := R.slot i
  rw [h0] at hi
  obtain ⟨q, vs, e1, e2, e3, e4, r⟩ := hi
  refine ⟨.ref q, gv_some.mp e1, .inl ⟨rfl, vs, .inl (.inl e2)⟩, F, sd, _, R, h, fun v H1 F1 d sd1 R1 S1 rv hh => ?_⟩
  obtain ⟨ds, h1, hlen, hnx⟩ := hh
  have hi1 := R1.slot i
  rw [h1] at hi1
  obtain ⟨q', vs1, z1, z2, z3, z4, r1⟩ := hi1
  rw [e1] at z1; cases z1
  refine ⟨q, vs1, v, rfl, rfl, z2, by rw [r1.length]; exact line_lt hlen, ?_⟩
  exact E.nx F1 _ σ _ S1.fr (R1.setOwn h1 e1 (r1.snoc rv)) hnx)
theorem drop_get {α : Type} {l : List α} {i : Nat} {d : α} (h : l[i]? = some d) : l.drop i = d :: l.drop (i + 1) := by
  have hi := (List.getElem?_eq_some_iff.mp h).1
  rw [List.drop_eq_getElem_cons hi, (List.getElem?_eq_some_iff.mp h).2]
theorem td_for {mi : MI} {mg : MG} {body : MS} : ∀ D σ H, tDS K C (mFor mi mg body) D σ H → tFor (tDI K C mi) (tDG K C mg) (tDS K C body) D σ H := by
  rintro D σ H ⟨F, sd, Dd, R, E, h⟩
  refine ⟨F, sd, _, R, h, fun J H1 F1 ds sd1 R1 S1 W h1 => ?_⟩
  obtain ⟨G, Y, w, hG, hY⟩ := W.ex
  refine for_it w (fun i σ' H' => ∃ F' sd', Rs K C F' H' σ' sd' ∧ Same F1 F' ∧ forL mg body Dd (ds.drop i) sd') ⟨F1, sd1, R1, Same.refl _, h1⟩ (fun i σ' H' _ ⟨F', sd', R', e, _⟩ => hG H' (e.trans R'.ext)) (fun i x σ' H' H'' hi ⟨F', sd', R', e, q⟩ y => ?_) (fun σ' H' ⟨F', sd', R', e, q⟩ => ?_)
  · obtain ⟨F2, d, al, hd, rd⟩ := hY i H' x H'' F' hi e R'.ext y
    rw [drop_get hd] at q
    have s2 : Same F1 F2 := e.trans (Stp.al R' al).fr
    refine ⟨F2, sd', d, _, R'.al al, rd, q, fun σ2 sd2 R2 q2 => ⟨F2, sd2, _, R2, ?_, q2⟩⟩
    exact ⟨fun F3 H3 σ3 sd3 e3 R3 q3 => ⟨F3, sd3, R3, s2.trans e3, q3⟩, (E.mono (S1.fr.trans s2)).rt, fun F3 H3 σ3 sd3 e3 R3 q3 => E.nx F3 H3 σ3 sd3 ((S1.fr.trans s2).trans e3) R3 q3, fun F3 H3 σ3 sd3 e3 R3 q3 => ⟨F3, sd3, R3, s2.trans e3, q3⟩⟩
  · rw [List.drop_length] at q
    exact E.nx F' H' σ' sd' (S1.fr.trans e) R' q
theorem pds_for {tg iter : Expr} {body : List Stmt} {pos : Pos} {mi : MI} {mg : MG} {mb : MS} (t : PS X (.For tg iter body [] pos) (tFor (tDI X.K C mi) (tDG X.K C mg) (tDS X.K C mb))) : PS X (.For tg iter body [] pos) (tDS X.K C (mFor mi mg mb)) := ps_imp t td_for
theorem td_while {mt : MT} {body : MS} : ∀ D σ H, tDS K C (mWhile mt body) D σ H → tWhile (tDT K C mt) (tDS K C body) D σ H := by
  rintro D σ H ⟨F, sd, Dd, R, E, n, h⟩
  refine ⟨fun m σ' H' => ∃ F' sd', Rs K C F' H' σ' sd' ∧ Same F F' ∧ whileN mt body Dd m sd', ⟨n, F, sd, R, Same.refl _, h⟩, fun m σ' H' hw => ?_⟩
  obtain ⟨F', sd', R', e, q⟩ := hw
  cases m with
  | zero => exact q.elim
  | succ m =>
    refine ⟨F', sd', _, R', q, fun b H1 F1 sd1 R1 S1 q1 => ?_⟩
    have s1 := e.trans S1.fr
    cases b with
    | true =>
      refine ⟨fun σ2 H2 => ∃ F2 sd2, Rs K C F2 H2 σ2 sd2 ∧ Same F F2 ∧ whileN mt body Dd m sd2, fun σ2 H2 z => ⟨m, Nat.lt_succ_self m, z⟩, F1, sd1, _, R1, ?_, q1⟩
      exact ⟨fun F3 H3 σ3 sd3 e3 R3 q3 => ⟨F3, sd3, R3, s1.trans e3, q3⟩, (E.mono s1).rt, fun F3 H3 σ3 sd3 e3 R3 q3 => E.nx F3 H3 σ3 sd3 (s1.trans e3) R3 q3, fun F3 H3 σ3 sd3 e3 R3 q3 => ⟨F3, sd3, R3, s1.trans e3, q3⟩⟩
    | false => exact E.nx F1 H1 σ' sd1 s1 R1 q1
theorem pds_while {c : Expr} {body : List Stmt} {pos : Pos} {mt : MT} {mb : MS} (t : PS X (.While c body [] pos) (tWhile (tDT X.K C mt) (tDS X.K C mb))) : PS X (.While c body [] pos) (tDS X.K C (mWhile mt mb)) := ps_imp t td_while
end
end DL
namespace DL
open PySem PySem.Spec PyProof.Rows L2
section
variable {K : PySem.W.Frag} {X : Cx} {C : Ct}
theorem rs_wipe {F H : Hp} {σ : L2.St} {sd : DSt} (R : Rs K C F H σ sd) : ∀ vs : List Nat, Rs K C F H (wipe σ vs) (swipe sd vs)
  | [] => R
  | v :: vs => (rs_wipe R vs).setno
theorem sget_swipe : ∀ {sd : DSt} {vs : List Nat} {i : Nat}, i ∉ vs → sget (swipe sd vs) i = sget sd i
  | _, [], _, _ => rfl
  | sd, v :: vs, i, h => by
    show sget (sset (swipe sd vs) v .no) i = _
    rw [sget_sset_ne (fun z => h (by simp [z]))]
    exact sget_swipe fun z => h (by simp [z])
theorem sget_sback : ∀ {s0 sd : DSt} {vs : List Nat} {i : Nat}, i ∉ vs → sget (sback s0 sd vs) i = sget sd i
  | _, _, [], _, _ => rfl
  | s0, sd, v :: vs, i, h => by
    show sget (sset (sback s0 sd vs) v _) i = _
    rw [sget_sset_ne (fun z => h (by simp [z]))]
    exact sget_sback fun z => h (by simp [z])
theorem sback_length : ∀ {s0 sd : DSt} {vs : List Nat}, (sback s0 sd vs).length = sd.length
  | _, _, [] => rfl
  | s0, sd, v :: vs => by show (sset (sback s0 sd vs) v _).length = _; rw [sset_length]; exact sback_length
theorem swipe_length : ∀ {sd : DSt} {vs : List Nat}, (swipe sd vs).length = sd.length
  | _, [] => rfl
  | sd, v :: vs => by show (sset (swipe sd vs) v _).length = _; rw [sset_length]; exact swipe_length
theorem gv_wipe : ∀ {σ : L2.St} {vs : List Nat} {i : Nat}, i ∉ vs → gv (wipe σ vs) i = gv σ i
  | _, [], _, _ => rfl
  | σ, v :: vs, i, h => by
    show gv ((wipe σ vs).set v none) i = _
    rw [gv_set_ne (fun z => h (by simp [z]))]
    exact gv_wipe fun z => h (by simp [z])
theorem sget_sback_in : ∀ {s0 sd : DSt} {vs : List Nat} {i : Nat}, i ∈ vs → sd.length = s0.length → sget (sback s0 sd vs) i = sget s0 i
  | s0, sd, v :: vs, i, h, hl => by
    show sget (sset (sback s0 sd vs) v (sget s0 v)) i = _
    by_cases hv : i = v
    · subst hv
      by_cases hi : i < s0.length
      · rw [sget_sset (by rw [sback_length, hl]; exact hi)]
      · rw [sget_out (by rw [sset_length, sback_length, hl]; omega), sget_out (by omega)]
    · rw [sget_sset_ne hv]
      exact sget_sback_in (by simpa [hv] using h) hl
theorem unOwn_of {s : DSt} {vs : List Nat} (h : unOwn s vs = true) {j : Nat} (hj : j ∈ vs) : isOwn (sget s j) = false := by
  unfold unOwn at h
  have := List.all_eq_true.mp h j hj
  cases e : sget s j <;> rw [e] at this <;> first | rfl | cases this
/-- targets within a comprehension: only its own slots change -/
def tDGv (K : PySem.W.Frag) (C : Ct) (vs : List Nat) (m : MG) : TG := fun v σ H Q => ∃ F sd d Qd, Rs K C F H σ sd ∧ Rp K F v d ∧ m d sd Qd ∧ ∀ σ' sd', Rs K C F H σ' sd' → wipe σ' vs = wipe σ vs → (∀ a, Owned σ' sd' a → Owned σ sd a) → Qd sd' → Q σ' H
def tDGsv (K : PySem.W.Frag) (C : Ct) (vs : List Nat) (m : MGs) : TGs := fun v σ H Q => ∃ F sd d Qd, Rs K C F H σ sd ∧ RpA K F v d ∧ m d sd Qd ∧ ∀ σ' sd', Rs K C F H σ' sd' → wipe σ' vs = wipe σ vs → (∀ a, Owned σ' sd' a → Owned σ sd a) → Qd sd' → Q σ' H
theorem wipe_set {σ : L2.St} {x : Option V} : ∀ {vs : List Nat} {i : Nat}, i ∈ vs → wipe (σ.set i x) vs = wipe σ vs
  | v :: vs, i, h => by
    show (wipe (σ.set i x) vs).set v none = (wipe σ vs).set v none
    by_cases hi : i ∈ vs
    · rw [wipe_set hi]
    · have hv : i = v := by simpa [hi] using h
      subst hv
      have comm : ∀ (ws : List Nat), i ∉ ws → wipe (σ.set i x) ws = (wipe σ ws).set i x := by
        intro ws
        induction ws with
        | nil => intro _; rfl
        | cons w ws ih =>
          intro hn
          show (wipe (σ.set i x) ws).set w none = ((wipe σ ws).set w none).set i x
          rw [ih (fun z => hn (by simp [z])), List.set_comm _ _ (show i ≠ w from fun z => hn (by simp [z]))]
      rw [comm vs hi, List.set_set]
theorem pdgv_name {vs : List Nat} {i : Nat} {x : Str} {pos : Pos} (hv : i ∈ vs) (h : PG X (.Name x pos) (gName i)) : PG X (.Name x pos) (tDGv X.K C vs (mgName i)) := pg_imp h (by
  rintro v σ H Q ⟨F, sd, d, Qd, R, r, h, k⟩
  refine k _ _ (R.setva r) (wipe_set hv) (fun a ⟨j, o, e⟩ => ?_) h
  by_cases hj : j = i
  · subst hj
    by_cases hl : j < sd.length
    · rw [sget_sset hl] at o; cases o
    · rw [sget_out (by rw [sset_length]; omega)] at o; cases o
  · rw [sget_sset_ne hj] at o; rw [gv_set_ne hj] at e; exact ⟨j, o, e⟩)
theorem pdgsv_nil {vs : List Nat} : PGs X [] (tDGsv X.K C vs mgNil) := pgs_imp pgs_nil (by
  rintro v σ H Q ⟨F, sd, ds, Qd, R, r, h, k⟩
  obtain ⟨e, h⟩ := h
  subst e
  cases r
  exact ⟨rfl, k _ _ R rfl (fun _ h => h) h⟩)
theorem pdgsv_cons {vs : List Nat} {e : Expr} {es : List Expr} {g : MG} {gs : MGs} (t : PGs X (e :: es) (gCons (tDGv X.K C vs g) (tDGsv X.K C vs gs))) : PGs X (e :: es) (tDGsv X.K C vs (mgCons g gs)) := pgs_imp t (by
  rintro v σ H Q ⟨F, sd, ds, Qd, R, r, h, k⟩
  obtain ⟨d, rest, e, h⟩ := h
  subst e
  cases r with
  | cons r1 r2 => exact ⟨_, _, rfl, F, sd, d, _, R, r1, h, fun σ' sd' R' w o q => ⟨F, sd', rest, Qd, R', r2, q, fun σ2 sd2 R2 w2 o2 q2 => k σ2 sd2 R2 (w2.trans w) (fun a z => o a (o2 a z)) q2⟩⟩)
theorem pdgv_tup {vs : List Nat} {es : List Expr} {kk : Nat} {pos : Pos} {gs : MGs} {n : Nat} (hc : X.calm = true) (h : PGs X es (tDGsv X.K C vs gs)) (hn : (assignEach es X.env).length = n := by rfl) (hst : (assignEach es X.env).findIdx? (·.1) = none := by rfl) :
    PG X (.Tuple es kk pos) (tDGv X.K C vs (mgTup n gs)) := pg_imp (pg_or (pg_tup hc h hn hst) (pg_lst hc h hn hst)) (by
  rintro v σ H Q ⟨F, sd, d, Qd, R, r, h, k⟩
  obtain ⟨ds, hd, hl, h⟩ := h
  cases r with
  | tup h1 r1 =>
    cases hd
    exact .inl ⟨_, _, rfl, same_t R.ext h1, by rw [r1.length]; exact hl, F, sd, _, Qd, R, r1, h, k⟩
  | lst h1 r1 =>
    cases hd
    exact .inr ⟨_, _, rfl, .inl (.inl (R.ext _ _ h1)), by rw [r1.length]; exact hl, F, sd, _, Qd, R, r1, h, k⟩
  | _ => cases hd)
theorem wipe_comm {σ : L2.St} {x : Option V} {i : Nat} : ∀ (ws : List Nat), i ∉ ws → wipe (σ.set i x) ws = (wipe σ ws).set i x
  | [], _ => rfl
  | w :: ws, hn => by
    show (wipe (σ.set i x) ws).set w none = ((wipe σ ws).set w none).set i x
    rw [wipe_comm ws (fun z => hn (by simp [z])), List.set_comm _ _ (show i ≠ w from fun z => hn (by simp [z]))]
theorem wipe_wipe {σ : L2.St} : ∀ vs : List Nat, wipe (wipe σ vs) vs = wipe σ vs
  | [] => rfl
  | v :: vs => by
    show (wipe ((wipe σ vs).set v none) vs).set v none = (wipe σ vs).set v none
    by_cases hv : v ∈ vs
    · rw [wipe_set hv, wipe_wipe vs]
    · rw [wipe_comm vs hv, wipe_wipe vs, List.set_set]
/-- an object that nobody knows is written -/
theorem Rs.updH {F H : Hp} {σ : L2.St} {sd : DSt} {p : Addr} {o : HO} (R : Rs K C F H σ sd) (hF : F p = none) (ho : ¬ Owned σ sd p) (h0 : C.H0 p = none) : Rs K C F (upd H p o) σ sd where
  len := R.len
  grow := R.grow
  ext := fun a x e => by
    have : a ≠ p := fun z => by subst z; rw [hF] at e; cases e
    rw [upd_ne this]; exact R.ext a x e
  new := R.new
  keep := fun a x e n => by
    have : a ≠ p := fun z => by subst z; rw [h0] at e; cases e
    rw [upd_ne this]; exact R.keep a x e n
  still := fun a e => by
    by_cases z : a = p
    · subst z; exact h0
    · rw [upd_ne z] at e; exact R.still a e
  slot := fun i => (R.slot i).grow (Same.refl _) fun q x o2 e eh en => by
    have : q ≠ p := fun z => by subst z; exact ho ⟨i, o2, e⟩
    exact ⟨by rw [upd_ne this]; exact eh, en⟩
  sep := R.sep
theorem owned_at {F H : Hp} {σ : L2.St} {sd : DSt} {p : Addr} (R : Rs K C F H σ sd) (o : Owned σ sd p) : ∃ x, H p = some x := by
  obtain ⟨i, o, e⟩ := o
  have hs := R.slot i
  cases es : sget sd i with
  | no => rw [es] at o; cases o
  | va d => rw [es] at o; cases o
  | scr d => rw [es] at o; cases o
  | exc d => rw [es] at o; cases o
  | own ds' => rw [es] at hs; obtain ⟨q2, vs2, e1, e2, _⟩ := hs; rw [e] at e1; cases e1; exact ⟨_, e2⟩
  | well n => rw [es] at hs; obtain ⟨q2, _, _, _, e1, e2, _⟩ := hs; rw [e] at e1; cases e1; exact ⟨_, e2⟩
theorem owned_wipe {σ : L2.St} {sd : DSt} {vs : List Nat} {a : Addr} (h : Owned (wipe σ vs) (swipe sd vs) a) : Owned σ sd a := by
  obtain ⟨i, o, e⟩ := h
  by_cases hi : i ∈ vs
  · have : ∀ (ws : List Nat), i ∈ ws → sget (swipe sd ws) i = .no := by
      intro ws
      induction ws with
      | nil => intro h; simp at h
      | cons w ws ih =>
        intro h
        show sget (sset (swipe sd ws) w .no) i = .no
        by_cases hw : i = w
        · subst hw
          by_cases hl : i < sd.length
          · rw [sget_sset (by rw [swipe_length]; exact hl)]
          · rw [sget_out (by rw [sset_length, swipe_length]; omega)]
        · rw [sget_sset_ne hw]; exact ih (by simpa [hw] using h)
    rw [this vs hi] at o; cases o
  · rw [sget_swipe hi] at o
    rw [gv_wipe hi] at e
    exact ⟨i, o, e⟩
/-- the end of a comprehension: its slots as they were ahead of it -/
theorem rs_back {F1 H1 F H : Hp} {σ : L2.St} {s1 s : DSt} {vs : List Nat} (R1 : Rs K C F1 H1 σ s1) (hu : unOwn s1 vs = true) (R : Rs K C F H (wipe σ vs) (swipe s vs)) (e : Same F1 F) : Rs K C F H σ (sback s1 s vs) ∧ ∀ a, Owned σ (sback s1 s vs) a → Owned (wipe σ vs) (swipe s vs) a := by
  have hl : s.length = s1.length := by
    have a := R.len
    have b := R1.len
    rw [wipe_length, swipe_length] at a
    omega
  have own : ∀ j, isOwn (sget (sback s1 s vs) j) = true → j ∉ vs := fun j o hj => by
    rw [sget_sback_in hj hl, unOwn_of hu hj] at o; cases o
  refine ⟨⟨by rw [sback_length, hl]; exact R1.len, R.grow, R.ext, R.new, R.keep, R.still, fun j => ?_, fun j k q hjk o1 o2 z1 => ?_⟩, fun a ⟨j, o, ev⟩ => ?_⟩
  · by_cases hj : j ∈ vs
    · rw [sget_sback_in hj hl]
      have := R1.slot j
      have no := unOwn_of hu hj
      exact this.grow e fun q o ho _ _ _ => by rw [no] at ho; cases ho
    · rw [sget_sback hj]
      have := R.slot j
      rw [sget_swipe hj, gv_wipe hj] at this
      exact this
  · have n1 := own j o1
    have n2 := own k o2
    rw [sget_sback n1] at o1
    rw [sget_sback n2] at o2
    have := R.sep j k q hjk (by rw [sget_swipe n1]; exact o1) (by rw [sget_swipe n2]; exact o2) (by rw [gv_wipe n1]; exact z1)
    rw [gv_wipe n2] at this
    exact this
  · have n1 := own j o
    rw [sget_sback n1] at o
    exact ⟨j, by rw [sget_swipe n1]; exact o, by rw [gv_wipe n1]; exact ev⟩
/-- one turn's beginning: the new list at Dl holds what acc tells -/
structure LcSt (K : PySem.W.Frag) (C : Ct) (σ : L2.St) (s1 : DSt) (F1 H1 : Hp) (vs : List Nat) (Dl : Addr) (F' H' : Hp) (s : DSt) (acc : List PyData) : Prop where
  R : Rs K C F' H' (wipe σ vs) (swipe s vs)
  fr : Same F1 F'
  kp : ∀ a o, H1 a = some o → ¬ Owned σ s1 a → H' a = some o
  ow : ∀ a, Owned (wipe σ vs) (swipe s vs) a → Owned σ s1 a
  nw : ∀ a o, F' a = some o → F1 a = some o ∨ H1 a = none ∨ Owned σ s1 a
  st : ∀ a, H' a = none → H1 a = none
  dl : ∃ vacc, H' Dl = some (.lst vacc) ∧ RpA K F' vacc acc
  df : F' Dl = none
theorem lc_end {σ : L2.St} {s1 s : DSt} {F1 H1 F' H' : Hp} {vs : List Nat} {Dl : Addr} {acc : List PyData} (R1 : Rs K C F1 H1 σ s1) (hu : unOwn s1 vs = true) (hD : H1 Dl = none) (L : LcSt K C σ s1 F1 H1 vs Dl F' H' s acc) :
    ∃ vacc, H' Dl = some (.lst vacc) ∧ RpA K F' vacc acc ∧ F' Dl = none ∧ C.H0 Dl = none ∧ Rs K C F' H' σ (sback s1 s vs) ∧ Stp σ s1 F1 H1 F' H' (sback s1 s vs) ∧ ¬ Owned σ (sback s1 s vs) Dl := by
  obtain ⟨vacc, h1, h2⟩ := L.dl
  obtain ⟨Rb, ob⟩ := rs_back R1 hu L.R L.fr
  refine ⟨vacc, h1, h2, L.df, R1.still _ hD, Rb, ⟨L.fr, L.kp, fun a z => L.ow a (ob a z), L.nw, L.st⟩, fun z => ?_⟩
  obtain ⟨x, e⟩ := owned_at R1 (L.ow _ (ob _ z))
  rw [hD] at e; cases e
theorem lc_turn {σ σ2 : L2.St} {s1 s s2 : DSt} {F1 H1 F' H' F2 H2 F3 H3 : Hp} {vs : List Nat} {Dl : Addr} {acc : List PyData} (R1 : Rs K C F1 H1 σ s1) (hD : H1 Dl = none) (L : LcSt K C σ s1 F1 H1 vs Dl F' H' s acc) (al : Al F' H' F2 H2)
    {s0 : DSt} (hw : wipe σ2 vs = wipe σ vs) (ho : ∀ a, Owned σ2 s0 a → Owned (wipe σ vs) (swipe s vs) a) (R3 : Rs K C F3 H3 σ2 s2) (S3 : Stp σ2 s0 F2 H2 F3 H3 s2) : LcSt K C σ s1 F1 H1 vs Dl F3 H3 s2 acc ∧ ¬ Owned (wipe σ vs) (swipe s2 vs) Dl ∧ C.H0 Dl = none := by
  have A := Stp.al L.R al
  have ow3 : ∀ a, Owned (wipe σ vs) (swipe s2 vs) a → Owned σ s1 a := fun a z => by
    rw [← hw] at z
    exact L.ow a (ho a (S3.ow a (owned_wipe z)))
  have nD : ¬ Owned σ s1 Dl := fun z => by
    obtain ⟨x, e⟩ := owned_at R1 z
    rw [hD] at e; cases e
  obtain ⟨vacc, h1, h2⟩ := L.dl
  have h12 : H2 Dl = some (.lst vacc) := A.kp _ _ h1 fun z => nD (L.ow _ z)
  have nD0 : ¬ Owned σ2 s0 Dl := fun z => nD (L.ow _ (ho _ z))
  refine ⟨⟨by rw [← hw]; exact rs_wipe R3 vs, (L.fr.trans A.fr).trans S3.fr, fun a o e n => S3.kp a o (A.kp a o (L.kp a o e n) fun z => n (L.ow a z)) fun z => n (L.ow a (ho a z)), ow3, fun a o e => ?_, fun a e => L.st a (A.st a (S3.st a e)), ⟨vacc, S3.kp _ _ h12 nD0, (h2.mono A.fr).mono S3.fr⟩, ?_⟩, fun z => nD (ow3 _ z), R1.still _ hD⟩
  · rcases S3.nw a o e with e | e | e
    · rcases A.nw a o e with e | e | e
      · exact L.nw a o e
      · exact .inr (.inl (L.st a e))
      · exact .inr (.inr (L.ow a e))
    · exact .inr (.inl (L.st a (A.st a e)))
    · exact .inr (.inr (L.ow a (ho a e)))
  · cases e : F3 Dl with
    | none => rfl
    | some o =>
      rcases S3.nw _ o e with e | e | e
      · rcases A.nw _ o e with e | e | e
        · rw [L.df] at e; cases e
        · rw [h1] at e; cases e
        · exact (nD (L.ow _ e)).elim
      · rw [h12] at e; cases e
      · exact (nD0 e).elim
theorem td_lc {mi : MI} {mg : MG} {mt : MT} {me : ME} {vs : List Nat} {σ : L2.St} {H : Hp} {Q : VK} {F : Hp} {sd : DSt} {P : List PyData → DSt → Prop} (R : Rs K C F H σ sd) (h : mi sd fun ds s => unOwn s vs = true ∧ lcL mg mt me vs (fun out s' => P out (sback s s' vs)) ds s [])
    (k : ∀ Dl H' F' out vout sd', Rs K C F' H' σ sd' → Stp σ sd F H F' H' sd' → H' Dl = some (.lst vout) → RpA K F' vout out → F' Dl = none → C.H0 Dl = none → ¬ Owned σ sd' Dl → H Dl = none → P out sd' → Q (.ref Dl) H') : tLc (tDI K C mi) (tDGv K C vs mg) (tDT K C mt) (tD K C me) vs σ H Q := by
  refine ⟨F, sd, _, R, h, fun J H1 F1 ds s1 R1 S1 W h1 => fun Dl hD => ?_⟩
  obtain ⟨hu, h1⟩ := h1
  obtain ⟨G, Y, w, hG, hY⟩ := W.ex
  have nD : ¬ Owned σ s1 Dl := fun z => by
    obtain ⟨x, e⟩ := owned_at R1 z
    rw [hD] at e; cases e
  refine lc_it w (fun i H' => ∃ F' s acc, LcSt K C σ s1 F1 H1 vs Dl F' H' s acc ∧ lcL mg mt me vs (fun out s' => P out (sback s1 s' vs)) (ds.drop i) s acc) ⟨F1, s1, [], ?_, h1⟩ (fun i H' _ ⟨F', s, acc, L, _⟩ => hG H' (L.fr.trans L.R.ext)) (fun i x H' H'' hi ⟨F', s, acc, L, q⟩ y => ?_) (fun H' ⟨F', s, acc, L, q⟩ => ?_)
  · refine ⟨rs_wipe (R1.allocH hD) vs, Same.refl _, fun a o e _ => same_new hD a o e, fun a z => owned_wipe z, fun a o e => .inl e, fun a e => ?_, ⟨[], upd_same, .nil⟩, R1.free hD⟩
    by_cases z : a = Dl
    · subst z; exact hD
    · rw [upd_ne z] at e; exact e
  · obtain ⟨F2, d, al, hd, rd⟩ := hY i H' x H'' F' hi L.fr L.R.ext y
    rw [drop_get hd] at q
    refine ⟨F2, swipe s vs, d, _, L.R.al al, rd, q, fun σ2 s2 R2 hw ho q2 => ⟨by rw [hw, wipe_wipe], F2, s2, _, R2, q2, fun b H3 F3 s3 R3 S3 q3 => ?_⟩⟩
    rw [wipe_wipe] at hw
    cases b with
    | true =>
      refine ⟨F3, s3, _, R3, q3, fun y H4 F4 dy s4 R4 S4 ry q4 => ?_⟩
      obtain ⟨L4, no4, h04⟩ := lc_turn R1 hD L al hw ho R4 (S3.trans S4)
      obtain ⟨vacc, e1, e2⟩ := L4.dl
      refine ⟨vacc, e1, by rw [e2.length]; exact line_lt q4.1, F4, s4, acc ++ [dy], ⟨L4.R.updH L4.df no4 h04, L4.fr, fun a o e n => ?_, L4.ow, L4.nw, fun a e => ?_, ⟨_, upd_same, e2.snoc ry⟩, L4.df⟩, q4.2⟩
      · have : a ≠ Dl := fun z => by subst z; rw [hD] at e; cases e
        rw [upd_ne this]; exact L4.kp a o e n
      · by_cases z : a = Dl
        · subst z; exact hD
        · rw [upd_ne z] at e; exact L4.st a e
    | false =>
      obtain ⟨L4, _, _⟩ := lc_turn R1 hD L al hw ho R3 S3
      exact ⟨F3, s3, acc, L4, q3⟩
  · rw [List.drop_length] at q
    obtain ⟨vacc, a1, a2, a3, a4, a5, a6, a7⟩ := lc_end R1 hu hD L
    exact k Dl H' F' acc vacc _ a5 (S1.trans a6) a1 a2 a3 a4 a7 (S1.st _ hD) q
end
end DL
namespace DL
open PySem PySem.Spec PyProof.Rows L2
/-- room for k calls, and nothing is being shown -/
structure RoomG (k : Nat) (A : Around) : Prop where
  r : Room k A
  g : A.guards = some []
theorem RoomG.mono {j k : Nat} {A : Around} (h : RoomG k A) (hj : j ≤ k) : RoomG j A := ⟨h.r.mono hj, h.g⟩
theorem RoomG.deeper {k : Nat} {A : Around} (h : RoomG (k + 1) A) (env : Env) : RoomG k (A.deeper env) := ⟨h.r.deeper env, h.g⟩
structure FnG (P : Program) (w : World) (K : PySem.W.Frag) (mg : Str → Option Value) (base : Heap) (k : Nat) (f : Addr) (fd : FuncData) (ps : List Str) (sp : Sp) : Prop where
  len : ∀ vs H Q E, sp vs H Q E → vs.length = ps.length
  run : ∀ {A : Around} {outer : List Env} {s : Shared} {H : Hp} {args : Args} {us : List Value} {vs : List V} {Q : VK} {E : XK}, RoomG k A → Env0 P w K mg base A outer s H → BindsTo s fd args (ps.zip us) → Vals vs us → sp vs H Q E →
    codeAny (model P w) A (.call (.ref f) args) (CR (L2.CX P w) outer P w H s Q E) s
theorem FnG.of {P : Program} {w : World} {K : PySem.W.Frag} {mg : Str → Option Value} {base : Heap} {k : Nat} {f : Addr} {fd : FuncData} {ps : List Str} {sp : Sp} (F : FnOk P w K mg base (L2.CX P w) k f fd ps sp) : FnG P w K mg base k f fd ps sp :=
  ⟨F.len, fun hr e b r h => F.run _ _ _ _ _ _ _ _ _ hr.r e b r h⟩
section
variable {P : Program} {w : World} {K : PySem.W.Frag} {mg : Str → Option Value} {base : Heap} {k : Nat}
/-- a def's promise from its body -/
theorem fun_okG {x qual : Str} {st : Stmt} {f : Addr} {fd : FuncData} {N ps : List Str} {sp : Sp} (F : Fun K x qual st f fd) (S : FnScope N ps (defScope st)) (len : ∀ vs H Q E, sp vs H Q E → vs.length = ps.length)
    (body : ∀ (cdv : Value) (A : Around) (outer : List Env) (s : Shared) (H : Hp) (vs : List V) (Q : VK) (E : XK), RoomG k (A.deeper (envOfC qual (defScope st) s.heap.objs.size f cdv)) → sp vs H Q E →
      ∃ t, PSs (cxOf (L2.CX P w) P w K mg base N qual (defScope st) f cdv A outer s H E) (defBody st) t ∧ t { nx := fun _ H' => Q .non H', rt := Q } (L2.start N vs) H) : FnG P w K mg base (k + 1) f fd ps sp := by
  obtain ⟨oc, od, kV, doc, pm, an, cdv, ct, osl, rfl, lk, code⟩ := F.ex
  refine ⟨len, fun {A outer s H args us vs Q E} hr e0 hb rv hs => ?_⟩
  have stays : ∀ b o, base.get? b = some o → s.heap.get? b = some o := fun b o e => (e0.bs b o e).1
  have KX := e0.mod.kin.keeps stays
  refine codeAny_call_function hr.r.depth (KX _ _ lk) rfl S.co S.gen rfl (PySem.W.codeRec_of KX code) (hb _ _ _ _ (wpAny_newFunctionEnv_cells S.kind (fun y hy => ?_) fun env he s1 x1 => ?_))
  · have hp := S.par y.1 (List.of_mem_zip (show (y.1, y.2) ∈ ps.zip us from hy)).1
    exact hp.imp id fun c => ⟨c, PySem.W.cellsFrom_some _ _ _ (.inl c)⟩
  · subst he
    obtain ⟨t, ht, ht2⟩ := body cdv A outer s H vs Q E (hr.deeper _) hs
    have I0 := inv_start (CX := L2.CX P w) (E := E) S hr.r.hd e0 (len _ _ _ _ hs) rv x1
    refine ⟨(e0.mod.nolimit.keeps stays).keeps x1.toInCall.keep, codeAny_func (wpAny_mono (ht.run [] s1 _ H _ I0 ht2) (fun fl s2 h2 => ?_) fun _ _ h2 => h2)⟩
    cases fl with
    | brk => exact h2.elim fun _ h => h.elim fun _ h => h.2.elim
    | cont => exact h2.elim fun _ h => h.elim fun _ h => h.2.elim
    | next => exact h2.elim fun σ2 h => h.elim fun H2 h => ⟨V.non, H2, h.1.os, h.1.bare, h.1.base, h.1.hok, rfl, h.2⟩
    | ret u => exact h2.elim fun v h => h.elim fun σ2 h => h.elim fun H2 h => ⟨v, H2, h.1.os, h.1.bare, h.1.base, h.1.hok, h.2.1, h.2.2⟩
end
section
variable {X : Cx} {k : Nat} {f : Addr} {fd : FuncData} {ps ks : List Str} {sp : Sp} {E : L2.St → XK} {x : Str} {p pos : Pos} {e : Expr} {es : List Expr} {t tk : TA}
theorem run_fnG {pins : List (Addr × Obj)} {σ : L2.St} {H : Hp} {s : Shared} {Q : VK} {us : List Value} {vs : List V} {args : Args} {n : Nat} (F : FnG X.prog X.w X.K X.mg X.base k f fd ps sp) (hr : RoomG k X.A) (hb : BindsTo s fd args (ps.zip us)) (hx : PassesAt (L2.CX X.prog X.w) X σ (E σ))
    (I : Inv X pins σ H s) (r : Vals vs us) (h : sp vs H Q (E σ)) : codeAny (model X.prog X.w) X.A (.call (.ref f) args) (fun r s' => match r with
      | .error e => X.xe e s'
      | .ok (.ret u) => EP X pins σ Q u s'
      | .ok _ => False) s := by
  refine codeAny_mono (F.run hr I.env0 hb r h) fun r s' hq => ?_
  cases r with
  | error e => exact hx pins H s e s' I hq
  | ok fl =>
    cases fl with
    | ret u => exact I.after hq
    | next => exact hq
    | brk => exact hq
    | cont => exact hq
/-- f(e, ..), and what f raises is wished for at the slots as they stand -/
def tCallG (sp : Sp) (E : L2.St → XK) (t : TA) : TE := fun σ H Q => t σ H fun vs H1 => sp vs H1 Q (E σ)
theorem wp_callG {pins : List (Addr × Obj)} {σ : L2.St} {H : Hp} {s : Shared} {Q : VK} {us : List Value} {vs : List V} (F : FnG X.prog X.w X.K X.mg X.base k f fd ps sp) (hr : RoomG k X.A) (hb : Binds X.K fd ps []) (hx : PassesAt (L2.CX X.prog X.w) X σ (E σ))
    (I : Inv X pins σ H s) (r : Vals vs us) (h : sp vs H Q (E σ)) : wpAny (model X.prog X.w) X.A (call (.ref f) us) (EP X pins σ Q) X.xe s := by
  have hl : (us ++ []).length = ps.length := by rw [List.append_nil, ← r.length]; exact F.len _ _ _ _ h
  have b := hb s us I.kIn hl
  rw [List.append_nil] at b
  refine wpAny_call (codeAny_mono (run_fnG (args := ⟨us, []⟩) (n := 0) F hr b hx I r h) fun r s' hq => ?_)
  rcases r with _ | (_ | _ | _ | _) <;> exact hq
theorem pe_callG (F : FnG X.prog X.w X.K X.mg X.base k f fd ps sp) (hr : RoomG k X.A) (hg : Gl X x) (hm : X.mg x = some (.ref f)) (hk : PySem.W.keepIn X.K (.ref f) = true) (hb : Binds X.K fd ps []) (hx : ∀ σ, PassesAt (L2.CX X.prog X.w) X σ (E σ))
    (ha : PA X (e :: es) t) (hdb : (x == ("__debug__" : Str)) = false) (he : starEach (e :: es) X.env = (false, eval e X.env) :: starEach es X.env) (hpl : (backTo pos (starEach es X.env)).any (·.1) = false) :
    PE X (.Call (.Name x p) (e :: es) [] pos) (tCallG sp E t) :=
  ⟨fun pins s σ H Q I h => wpAny_Call_Name_kw (ld_glob I hg hm (PySem.W.callWith_K (h₀ := X.base) I.ok.mod.kin hk (thn (ha.run pos pins s σ H _ I h) fun us s1 hh => by
    obtain ⟨vs, H1, I1, r, q⟩ := hh
    exact ⟨I1.kIn, wp_callG F hr hb (hx σ) I1 r q⟩) he hpl) hdb)⟩
theorem pe_callG0 (F : FnG X.prog X.w X.K X.mg X.base k f fd ps sp) (hr : RoomG k X.A) (hg : Gl X x) (hm : X.mg x = some (.ref f)) (hk : PySem.W.keepIn X.K (.ref f) = true) (hb : Binds X.K fd ps []) (hx : ∀ σ, PassesAt (L2.CX X.prog X.w) X σ (E σ))
    (hdb : (x == ("__debug__" : Str)) = false) : PE X (.Call (.Name x p) [] [] pos) (tCallG sp E tNil) :=
  ⟨fun pins s σ H Q I h => wpAny_Call_Name_kw (ld_glob I hg hm (PySem.W.callWith_K0 I.kIn hk (wp_callG (us := []) F hr hb (hx σ) I .nil h)) hdb)⟩
/-- f(a, .., k=b, ..) -/
def tCallGK (sp : Sp) (gV : List V → List V → List V) (E : L2.St → XK) (t tk : TA) : TE := fun σ H Q => t σ H fun vs H1 => tk σ H1 fun zs H2 => sp (gV vs zs) H2 Q (E σ)
variable {g : List Value → List Value → List Value} {gV : List V → List V → List V} {kws : List Keyword}
theorem wp_callGK {pins : List (Addr × Obj)} {σ : L2.St} {H : Hp} {s : Shared} {Q : VK} {us ws : List Value} {vs zs : List V} (F : FnG X.prog X.w X.K X.mg X.base k f fd ps sp) (hr : RoomG k X.A) (hb : KBinds X.K fd ps ks g gV) (hx : PassesAt (L2.CX X.prog X.w) X σ (E σ))
    (I : Inv X pins σ H s) (r : Vals vs us) (rz : Vals zs ws) (h : sp (gV vs zs) H Q (E σ)) : wpAny (model X.prog X.w) X.A (call (.ref f) us (ks.zip ws)) (EP X pins σ Q) X.xe s := by
  have rg := hb.rel r rz
  have hl : (g us ws).length = ps.length := rg.length ▸ F.len _ _ _ _ h
  refine wpAny_call (codeAny_mono (run_fnG (args := ⟨us, ks.zip ws⟩) (n := 0) F hr (hb.to s us ws I.kIn hl) hx I rg h) fun r s' hq => ?_)
  rcases r with _ | (_ | _ | _ | _) <;> exact hq
theorem pe_callGK (F : FnG X.prog X.w X.K X.mg X.base k f fd ps sp) (hr : RoomG k X.A) (hg : Gl X x) (hm : X.mg x = some (.ref f)) (hk : PySem.W.keepIn X.K (.ref f) = true) (hb : KBinds X.K fd ps ks g gV) (hx : ∀ σ, PassesAt (L2.CX X.prog X.w) X σ (E σ))
    (ha : PA X (e :: es) t) (hkw : PK X kws tk) (hall : (backToKw pos (keywordEach kws X.env)).all (·.1.isSome) = true) (hks : (backToKw pos (keywordEach kws X.env)).filterMap (·.1) = ks)
    (hdb : (x == ("__debug__" : Str)) = false) (he : starEach (e :: es) X.env = (false, eval e X.env) :: starEach es X.env)
    (hpl : ((backTo pos (starEach (e :: es) X.env)).any (·.1) || (backToKw pos (keywordEach kws X.env)).any (·.1.isNone)) = false) : PE X (.Call (.Name x p) (e :: es) kws pos) (tCallGK sp gV E t tk) := by
  refine ⟨fun pins s σ H Q I h => wpAny_Call_Name_kw (ld_glob I hg hm (PySem.W.callWith_KW (h₀ := X.base) I.ok.mod.kin hk hall (thn (ha.run pos pins s σ H _ I h) fun us s1 hh => ?_) hpl he) hdb)⟩
  obtain ⟨vs, H1, I1, r, q⟩ := hh
  refine thn (hkw.run pos pins s1 σ H1 _ I1 q) fun ws s2 h2 => ?_
  obtain ⟨zs, H2, I2, rz, q2⟩ := h2
  refine ⟨I2.kIn, ?_⟩
  rw [hks]
  exact wp_callGK F hr hb (hx σ) I2 r rz q2
theorem pe_callGK0 (F : FnG X.prog X.w X.K X.mg X.base k f fd ps sp) (hr : RoomG k X.A) (hg : Gl X x) (hm : X.mg x = some (.ref f)) (hk : PySem.W.keepIn X.K (.ref f) = true) (hb : KBinds X.K fd ps ks g gV) (hx : ∀ σ, PassesAt (L2.CX X.prog X.w) X σ (E σ))
    (hkw : PK X kws tk) (hall : (backToKw pos (keywordEach kws X.env)).all (·.1.isSome) = true) (hks : (backToKw pos (keywordEach kws X.env)).filterMap (·.1) = ks)
    (hdb : (x == ("__debug__" : Str)) = false) (hpl : ((backTo pos (starEach [] X.env)).any (·.1) || (backToKw pos (keywordEach kws X.env)).any (·.1.isNone)) = false) : PE X (.Call (.Name x p) [] kws pos) (tCallGK sp gV E tNil tk) := by
  refine ⟨fun pins s σ H Q I h => wpAny_Call_Name_kw (ld_glob I hg hm (PySem.W.callWith_KW0 (h₀ := X.base) I.ok.mod.kin hk hall (thn (hkw.run pos pins s σ H _ I h) fun ws s2 h2 => ?_) hpl) hdb)⟩
  obtain ⟨zs, H2, I2, rz, q2⟩ := h2
  refine ⟨I2.kIn, ?_⟩
  rw [hks]
  exact wp_callGK F hr hb (hx σ) I2 .nil rz q2
end
end DL
namespace DL
open PySem PySem.Spec PyProof.Rows L2
section
variable {K : PySem.W.Frag} {X : Cx} {C : Ct}
/-- a list that nobody knows is made known -/
theorem Rs.freezeD {F H : Hp} {σ : L2.St} {sd : DSt} {p : Addr} {vs : List V} {ds : List PyData} (R : Rs K C F H σ sd) (h : H p = some (.lst vs)) (hF : F p = none) (h0 : C.H0 p = none) (ho : ¬ Owned σ sd p) (r : RpA K F vs ds) :
    Rs K C (upd F p (.lst vs)) H σ sd ∧ Rp K (upd F p (.lst vs)) (.ref p) (.list ds) := by
  have sF : Same F (upd F p (.lst vs)) := same_new hF
  refine ⟨⟨R.len, R.grow.trans sF, fun a x e => ?_, fun a x e => ?_, R.keep, R.still, fun i => ?_, R.sep⟩, .lst upd_same (r.mono sF)⟩
  · by_cases z : a = p
    · subst z; rw [upd_same] at e; cases e; exact h
    · rw [upd_ne z] at e; exact R.ext a x e
  · by_cases z : a = p
    · subst z; exact .inr h0
    · rw [upd_ne z] at e; exact R.new a x e
  · refine (R.slot i).grow sF fun q x o e eh en => ⟨eh, ?_⟩
    have : q ≠ p := fun z => by subst z; exact ho ⟨i, o, e⟩
    rw [upd_ne this]; exact en
theorem Stp.freezeD {F H F' H' : Hp} {σ : L2.St} {sd sd' : DSt} {p : Addr} {o : HO} (S : Stp σ sd F H F' H' sd') (hF : F' p = none) (hn : H p = none) : Stp σ sd F H (upd F' p o) H' sd' where
  fr := S.fr.trans (same_new hF)
  kp := S.kp
  ow := S.ow
  nw := fun a x e => by
    by_cases z : a = p
    · subst z; exact .inr (.inl hn)
    · rw [upd_ne z] at e; exact S.nw a x e
  st := S.st
theorem td_lcV {mi : MI} {mg : MG} {mt : MT} {me : ME} {vs : List Nat} : ∀ σ H Q, tD K C (mLc mi mg mt me vs) σ H Q → tLc (tDI K C mi) (tDGv K C vs mg) (tDT K C mt) (tD K C me) vs σ H Q := by
  rintro σ H Q ⟨F, sd, Qd, R, h, k⟩
  refine td_lc R h fun Dl H' F' out vout sd' R' S h1 r hF h0 ho hn q => ?_
  obtain ⟨R2, rp⟩ := R'.freezeD h1 hF h0 ho r
  exact k _ H' _ _ sd' R2 (S.freezeD hF hn) rp q
theorem td_lcR {mi : MI} {mg : MG} {mt : MT} {me : ME} {vs : List Nat} : ∀ σ H Q, tDR K C (mrLc mi mg mt me vs) σ H Q → tLc (tDI K C mi) (tDGv K C vs mg) (tDT K C mt) (tD K C me) vs σ H Q := by
  rintro σ H Q ⟨F, sd, Qd, R, h, k⟩
  refine td_lc R h fun Dl H' F' out vout sd' R' S h1 r hF h0 ho hn q => ?_
  exact k _ H' F' (.own out) sd' R' S ⟨Dl, vout, rfl, h1, hF, h0, r⟩ (fun _ z e => by cases e; exact ho) (fun _ z e => by cases e; exact hn) q
variable {elt tg iter : Expr} {ifs : List Expr} {scope : Scope} {pos : Pos} {mi : MI} {mg : MG} {mt : MT} {me : ME} {vs : List Nat}
theorem pd_lc (t : PE X (.ListComp elt [⟨tg, iter, ifs, 0⟩] scope pos) (tLc (tDI X.K C mi) (tDGv X.K C vs mg) (tDT X.K C mt) (tD X.K C me) vs)) : PE X (.ListComp elt [⟨tg, iter, ifs, 0⟩] scope pos) (tD X.K C (mLc mi mg mt me vs)) := pe_imp t td_lcV
theorem pdr_lc (t : PE X (.ListComp elt [⟨tg, iter, ifs, 0⟩] scope pos) (tLc (tDI X.K C mi) (tDGv X.K C vs mg) (tDT X.K C mt) (tD X.K C me) vs)) : PE X (.ListComp elt [⟨tg, iter, ifs, 0⟩] scope pos) (tDR X.K C (mrLc mi mg mt me vs)) := pe_imp t td_lcR
/-- y = [..] on one line -/
theorem pds_setLc {y : Expr} {spos : Pos} {i : Nat} (t : PS X (.Assign [y] (.ListComp elt [⟨tg, iter, ifs, 0⟩] scope pos) spos) (tAsg (tLc (tDI X.K C mi) (tDGv X.K C vs mg) (tDT X.K C mt) (tD X.K C me) vs) (gName i))) :
    PS X (.Assign [y] (.ListComp elt [⟨tg, iter, ifs, 0⟩] scope pos) spos) (tDS X.K C (mAsg (mLc mi mg mt me vs) (mgName i))) := ps_imp t (by
  rintro D σ H ⟨F, sd, Dd, R, E, h⟩
  refine td_lcV σ H _ ⟨F, sd, _, R, h, fun v H1 F1 d sd1 R1 S1 r q => ?_⟩
  exact E.nx F1 H1 _ _ S1.fr (R1.setva r) q)
theorem pds_setLcR {y : Expr} {spos : Pos} {i : Nat} (t : PS X (.Assign [y] (.ListComp elt [⟨tg, iter, ifs, 0⟩] scope pos) spos) (tAsg (tLc (tDI X.K C mi) (tDGv X.K C vs mg) (tDT X.K C mt) (tD X.K C me) vs) (gName i))) :
    PS X (.Assign [y] (.ListComp elt [⟨tg, iter, ifs, 0⟩] scope pos) spos) (tDS X.K C (mAsgR i (mrLc mi mg mt me vs))) := ps_imp t (by
  rintro D σ H ⟨F, sd, Dd, R, E, h⟩
  refine td_lcR σ H _ ⟨F, sd, _, R, h, fun v H1 F1 r sd1 R1 S1 rv fre new q => ?_⟩
  exact E.nx F1 H1 _ _ S1.fr (R1.setr rv fre) q)
theorem pdts_nil : PTs X [] (tDT X.K C mTYes) := ⟨fun pins s σ H Q I h => (pts_nil (X := X)).run pins s σ H Q I (by
  obtain ⟨F, sd, Qd, R, h, k⟩ := h
  exact k true H F sd R .refl h)⟩
theorem pdts_one {c : Expr} {t : MT} (h : PT X c (tDT X.K C t)) : PTs X [c] (tDT X.K C t) := pts_one h
end
/-- behind a call that was handed frozen data alone -/
structure Post (K : PySem.W.Frag) (F H F' H' : Hp) : Prop where
  fr : Same F F'
  ext : Same F' H'
  kp : Same H H'
  nw : ∀ a o, F' a = some o → F a = some o ∨ H a = none
def ResOk (K : PySem.W.Frag) (F' H H' : Hp) (v : V) : S → Prop
  | .no => True
  | .scr ns => ∃ p, v = .ref p ∧ SqL K F' p (ns.map V.int)
  | .exc a => v = .ref a
  | .va d => Rp K F' v d
  | .own ds => ∃ p vs, v = .ref p ∧ H' p = some (.lst vs) ∧ F' p = none ∧ H p = none ∧ RpA K F' vs ds
  | .well n => ∃ p a b c, v = .ref p ∧ H' p = some (.lst [.int a, .int b, .int c]) ∧ F' p = none ∧ H p = none ∧ WellOk n a b c
def spP (K : PySem.W.Frag) (CN : String → Option Addr) (spec : PSpec) : Sp := fun vs H Q E => ∃ F ds Qd Ed, Same F H ∧ RpA K F vs ds ∧ spec ds Qd Ed ∧
  (∀ v H' F' r, Post K F H F' H' → ResOk K F' H H' v r → Qd r → Q v H') ∧ ∀ c a H' F', CN c = some a → Post K F H F' H' → Ed c → E (.ref a) none H'
/-- .. and the well -/
structure PostW (K : PySem.W.Frag) (p : Addr) (F H F' H' : Hp) (n' : Nat) : Prop where
  fr : Same F F'
  ext : Same F' H'
  kp : ∀ a o, a ≠ p → H a = some o → H' a = some o
  nw : ∀ a o, F' a = some o → F a = some o ∨ H a = none
  wl : ∃ a b c, H' p = some (.lst [.int a, .int b, .int c]) ∧ WellOk n' a b c
def spW (K : PySem.W.Frag) (spec : WSpec) : Sp := fun vs H Q _ => ∃ F p ws n a b c ds Qd, vs = .ref p :: ws ∧ Same F H ∧ F p = none ∧ H p = some (.lst [.int a, .int b, .int c]) ∧ WellOk n a b c ∧ RpA K F ws ds ∧ spec n ds Qd ∧
  ∀ v H' F' r n', PostW K p F H F' H' n' → ResOk K F' H H' v r → Qd r n' → Q v H'
section
variable {K : PySem.W.Frag} {X : Cx} {C : Ct} {F H F' H' : Hp} {σ : L2.St} {sd : DSt}
theorem Rs.post (R : Rs K C F H σ sd) (P : Post K F H F' H') : Rs K C F' H' σ sd ∧ Stp σ sd F H F' H' sd := by
  have ns : ∀ a, H' a = none → H a = none := fun a e => P.kp.free e
  refine ⟨⟨R.len, R.grow.trans P.fr, P.ext, fun a o e => ?_, fun a o e n => P.kp a o (R.keep a o e n), fun a e => R.still a (ns a e), fun i => (R.slot i).grow P.fr fun q x o e eh en => ⟨P.kp q x eh, ?_⟩, R.sep⟩, ⟨P.fr, fun a o e _ => P.kp a o e, fun _ z => z, fun a o e => ?_, ns⟩⟩
  · rcases P.nw a o e with e | e
    · exact R.new a o e
    · exact .inr (R.still a e)
  · cases z : F' q with
    | none => rfl
    | some y =>
      rcases P.nw q y z with z | z
      · rw [en] at z; cases z
      · rw [eh] at z; cases z
  · rcases P.nw a o e with e | e
    · exact .inl e
    · exact .inr (.inl e)
/-- the result of a call, frozen where it is a list -/
theorem Rs.res {H0 : Hp} {F0 : Hp} {sd0 : DSt} {v : V} {r : S} {d : PyData} (R : Rs K C F' H' σ sd) (S : Stp σ sd0 F0 H0 F' H' sd) (h : ResOk K F' H H' v r) (hn : ∀ p, H p = none → H0 p = none ∧ ¬ Owned σ sd p ∧ C.H0 p = none) (hf : fz r = some d) :
    ∃ F2, Rs K C F2 H' σ sd ∧ Stp σ sd0 F0 H0 F2 H' sd ∧ Rp K F2 v d := by
  cases r with
  | no => cases hf
  | scr _ => cases hf
  | exc _ => cases hf
  | well n => cases hf
  | va d' => cases hf; exact ⟨F', R, S, h⟩
  | own ds =>
    cases hf
    obtain ⟨p, vs, rfl, h1, h2, h3, h4⟩ := h
    have hn3 := hn p h3
    obtain ⟨n1, n2, n3⟩ := hn3
    obtain ⟨R2, rp⟩ := R.freezeD h1 h2 n3 n2 h4
    exact ⟨_, R2, S.freezeD h2 n1, rp⟩
theorem Rs.fresh (R : Rs K C F H σ sd) {p : Addr} (h : H p = none) : ¬ Owned σ sd p ∧ C.H0 p = none :=
  by
  refine ⟨fun z => ?_, R.still p h⟩
  have e := owned_at R z
  rw [h] at e
  exact nomatch e
/-- a def of the text and its promise -/
structure CalP (P : Program) (w : World) (K : PySem.W.Frag) (mg : Str → Option Value) (base : Heap) (CN : String → Option Addr) (k : Nat) (x : Str) (spec : PSpec) : Prop where
  ex : ∃ f fd ps, FnG P w K mg base k f fd ps (spP K CN spec) ∧ mg x = some (.ref f) ∧ PySem.W.keepIn K (.ref f) = true ∧ Binds K fd ps []
structure CalW (P : Program) (w : World) (K : PySem.W.Frag) (mg : Str → Option Value) (base : Heap) (k : Nat) (x : Str) (spec : WSpec) : Prop where
  ex : ∃ f fd ps, FnG P w K mg base k f fd ps (spW K spec) ∧ mg x = some (.ref f) ∧ PySem.W.keepIn K (.ref f) = true ∧ Binds K fd ps []
theorem td_call {CN : String → Option Addr} {spec : PSpec} {W : WD} {ma : MA} : ∀ σ H Q, tD K C (mCall spec W ma) σ H Q → tCallG (spP K CN spec) (WE (wD K C CN W)) (tDA K C ma) σ H Q := by
  rintro σ H Q ⟨F, sd, Qd, R, h, k⟩
  refine ⟨F, sd, _, R, h, fun vs H1 F1 ds sd1 R1 S1 rs h1 => ⟨F1, ds, _, _, R1.ext, rs, h1, fun v H' F' r P ro q => ?_, fun c a H' F' hc P q => ?_⟩⟩
  · obtain ⟨d, hf, q⟩ := q
    obtain ⟨R2, S2⟩ := R1.post P
    obtain ⟨F2, R3, S3, rp⟩ := R2.res (S1.trans S2) ro (fun p hp => ⟨S1.st p hp, fun z => (R1.fresh hp).1 (S2.ow p z), (R1.fresh hp).2⟩) hf
    exact k v H' F2 d sd1 R3 S3 rp q
  · exact ⟨c, a, F', sd1, hc, rfl, rfl, (R1.post P).1, q⟩
theorem pd_call {CN : String → Option Addr} {spec : PSpec} {W : WD} {ma : MA} {x : Str} {p pos : Pos} {e : Expr} {es : List Expr} {k j : Nat} (c : CalP X.prog X.w X.K X.mg X.base CN k x spec) (hr : RoomG j X.A) (hk : k ≤ j) (tk : Takes X (wD X.K C CN W)) (ha : PA X (e :: es) (tDA X.K C ma)) (hg : Gl X x := by rfl)
    (hdb : (x == ("__debug__" : Str)) = false := by decide) (he : starEach (e :: es) X.env = (false, eval e X.env) :: starEach es X.env := by rfl) (hpl : (backTo pos (starEach es X.env)).any (·.1) = false := by rfl) :
    PE X (.Call (.Name x p) (e :: es) [] pos) (tD X.K C (mCall spec W ma)) := by
  obtain ⟨f, fd, ps, F, hm, hkp, hb⟩ := c.ex
  exact pe_imp (pe_callG F (hr.mono hk) hg hm hkp hb (passAt tk) ha hdb he hpl) td_call
/-- .. its result still owned -/
theorem td_callR {CN : String → Option Addr} {spec : PSpec} {W : WD} {ma : MA} (hw : C.isW = false) : ∀ σ H Q, tDR K C (mrCall spec W ma) σ H Q → tCallG (spP K CN spec) (WE (wD K C CN W)) (tDA K C ma) σ H Q := by
  rintro σ H Q ⟨F, sd, Qd, R, h, k⟩
  refine ⟨F, sd, _, R, h, fun vs H1 F1 ds sd1 R1 S1 rs h1 => ⟨F1, ds, _, _, R1.ext, rs, h1, fun v H' F' r P ro q => ?_, fun c a H' F' hc P q => ?_⟩⟩
  · obtain ⟨R2, S2⟩ := R1.post P
    have S3 := S1.trans S2
    have fr : ∀ p, H1 p = none → ¬ Owned σ sd1 p := fun p hp => (R1.fresh hp).1
    cases r with
    | no => exact k v H' F' .no sd1 R2 S3 trivial (fun z => nomatch z) (fun z => nomatch z) q
    | exc a => exact k v H' F' (.exc a) sd1 R2 S3 (congrArg some (show v = .ref a from ro)) (fun z => nomatch z) (fun z => nomatch z) q
    | scr ns => obtain ⟨p, rfl, h1⟩ := ro; exact k _ H' F' (.scr ns) sd1 R2 S3 ⟨p, rfl, h1⟩ (fun z => nomatch z) (fun z => nomatch z) q
    | va d => exact k v H' F' (.va d) sd1 R2 S3 ⟨v, rfl, ro⟩ (fun z => nomatch z) (fun z => nomatch z) q
    | own ds =>
      obtain ⟨p, vs', rfl, h1, h2, h3, h4⟩ := ro
      exact k _ H' F' (.own ds) sd1 R2 S3 ⟨p, vs', rfl, h1, h2, R1.still p h3, h4⟩ (fun _ z e => by cases e; exact fr p h3) (fun _ z e => by cases e; exact S1.st p h3) q
    | well n =>
      obtain ⟨p, a, b, cc, rfl, h1, h2, h3, h4⟩ := ro
      exact k _ H' F' (.well n) sd1 R2 S3 ⟨p, a, b, cc, rfl, h1, h2, .inr ⟨hw, R1.still p h3⟩, h4⟩ (fun _ z e => by cases e; exact fr p h3) (fun _ z e => by cases e; exact S1.st p h3) q
  · exact ⟨c, a, F', sd1, hc, rfl, rfl, (R1.post P).1, q⟩
theorem pdr_call {CN : String → Option Addr} {spec : PSpec} {W : WD} {ma : MA} {x : Str} {p pos : Pos} {e : Expr} {es : List Expr} {k j : Nat} (hw : C.isW = false) (c : CalP X.prog X.w X.K X.mg X.base CN k x spec) (hr : RoomG j X.A) (hk : k ≤ j) (tk : Takes X (wD X.K C CN W)) (ha : PA X (e :: es) (tDA X.K C ma)) (hg : Gl X x := by rfl)
    (hdb : (x == ("__debug__" : Str)) = false := by decide) (he : starEach (e :: es) X.env = (false, eval e X.env) :: starEach es X.env := by rfl) (hpl : (backTo pos (starEach es X.env)).any (·.1) = false := by rfl) :
    PE X (.Call (.Name x p) (e :: es) [] pos) (tDR X.K C (mrCall spec W ma)) := by
  obtain ⟨f, fd, ps, F, hm, hkp, hb⟩ := c.ex
  exact pe_imp (pe_callG F (hr.mono hk) hg hm hkp hb (passAt tk) ha hdb he hpl) (td_callR hw)
/-- f(well, e, ..) -/
theorem Rs.postW {i : Nat} {n n' : Nat} {p : Addr} (R : Rs K C F H σ sd) (h : sget sd i = .well n) (e : gv σ i = some (.ref p)) (hn : ∃ a b c, H p = some (.lst [.int a, .int b, .int c]) ∧ WellOk n a b c) (P : PostW K p F H F' H' n') :
    Rs K C F' H' σ (sset sd i (.well n')) ∧ Stp σ sd F H F' H' (sset sd i (.well n')) := by
  obtain ⟨a0, b0, c0, hp, _⟩ := hn
  have hi := R.slot i
  rw [h] at hi
  obtain ⟨p', a1, b1, c1, z1, z2, z3, z4, _⟩ := hi
  rw [e] at z1; cases z1
  have hl : i < sd.length := R.lt_of_own (by rw [h]; intro z; cases z)
  obtain ⟨a2, b2, c2, w1, w2⟩ := P.wl
  have Fp : F' p = none := by
    cases z : F' p with
    | none => rfl
    | some y =>
      rcases P.nw p y z with z | z
      · rw [z3] at z; cases z
      · rw [hp] at z; cases z
  have own : Owned σ sd p := ⟨i, by rw [h]; rfl, e⟩
  have other : ∀ j q, j ≠ i → isOwn (sget sd j) = true → gv σ j = some (.ref q) → q ≠ p := fun j q hj ho eq z => by
    subst z
    exact R.sep i j q (Ne.symm hj) (by rw [h]; rfl) ho e eq
  have ns : ∀ a, H' a = none → H a = none := fun a z => by
    by_cases za : a = p
    · subst za; rw [w1] at z; cases z
    · cases q : H a with
      | none => rfl
      | some o => rw [P.kp a o za q] at z; cases z
  have ow : ∀ a, Owned σ (sset sd i (.well n')) a → Owned σ sd a := fun a ⟨j, o, ev⟩ => by
    by_cases hj : j = i
    · subst hj; rw [e] at ev; cases ev; exact own
    · rw [sget_sset_ne hj] at o; exact ⟨j, o, ev⟩
  refine ⟨⟨by rw [sset_length]; exact R.len, R.grow.trans P.fr, P.ext, fun a o q => ?_, fun a o q n => ?_, fun a z => R.still a (ns a z), fun j => ?_, fun j k q hjk o1 o2 z1 => ?_⟩, ⟨P.fr, fun a o q n => P.kp a o (fun z => n (z ▸ own)) q, ow, fun a o q => ?_, ns⟩⟩
  · rcases P.nw a o q with q | q
    · exact R.new a o q
    · exact .inr (R.still a q)
  · have ha := R.keep a o q n
    by_cases za : a = p
    · subst za
      rcases z4 with z4 | z4
      · exact (n z4.2).elim
      · rw [z4.2] at q; cases q
    · exact P.kp a o za ha
  · by_cases hj : j = i
    · subst hj; rw [sget_sset hl]; exact ⟨p, a2, b2, c2, e, w1, Fp, z4, w2⟩
    · rw [sget_sset_ne hj]
      refine (R.slot j).grow P.fr fun q x ho eq eh en => ⟨P.kp q x (other j q hj ho eq) eh, ?_⟩
      cases z : F' q with
      | none => rfl
      | some y =>
        rcases P.nw q y z with z | z
        · rw [en] at z; cases z
        · rw [eh] at z; cases z
  · have own_of : ∀ m, isOwn (sget (sset sd i (.well n')) m) = true → isOwn (sget sd m) = true := fun m o => by
      by_cases hm : m = i
      · subst hm; rw [h]; rfl
      · rw [sget_sset_ne hm] at o; exact o
    exact R.sep j k q hjk (own_of j o1) (own_of k o2) z1
  · rcases P.nw a o q with q | q
    · exact .inl q
    · exact .inr (.inl q)
theorem td_callW {spec : WSpec} {i : Nat} {ma : MA} {E : L2.St → XK} : ∀ σ H Q, tD K C (mCallW spec i ma) σ H Q → tCallG (spW K spec) E (tCons (tVar i) (tDA K C ma)) σ H Q := by
  rintro σ H Q ⟨F, sd, Qd, R, ⟨⟨n0, hn0⟩, h⟩, k⟩
  have hi := R.slot i
  rw [hn0] at hi
  obtain ⟨p, _, _, _, e1, _⟩ := hi
  refine ⟨.ref p, gv_some.mp e1, F, sd, _, R, h, fun vs H1 F1 ds sd1 R1 S1 rs h1 => ?_⟩
  obtain ⟨n, hn, h1⟩ := h1
  have hi1 := R1.slot i
  rw [hn] at hi1
  obtain ⟨p', a, b, c, z1, z2, z3, z4, z5⟩ := hi1
  rw [e1] at z1; cases z1
  refine ⟨F1, p, vs, n, a, b, c, ds, _, rfl, R1.ext, z3, z2, z5, rs, h1, fun v H' F' r n' P ro q => ?_⟩
  obtain ⟨d, hf, q⟩ := q
  obtain ⟨R2, S2⟩ := R1.postW hn e1 ⟨a, b, c, z2, z5⟩ P
  obtain ⟨F2, R3, S3, rp⟩ := R2.res (S1.trans S2) ro (fun p hp => ⟨S1.st p hp, fun z => (R1.fresh hp).1 (S2.ow p z), (R1.fresh hp).2⟩) hf
  exact k v H' F2 d _ R3 S3 rp q
theorem pd_callW {spec : WSpec} {i : Nat} {ma : MA} {x y : Str} {p p2 pos : Pos} {es : List Expr} {k j : Nat} {W : WX} (c : CalW X.prog X.w X.K X.mg X.base k x spec) (hr : RoomG j X.A) (hk : k ≤ j) (tk : Takes X W) (hy : PE X (.Name y p2) (tVar i)) (ha : PA X es (tDA X.K C ma)) (hg : Gl X x := by rfl)
    (hdb : (x == ("__debug__" : Str)) = false := by decide) (he : starEach (.Name y p2 :: es) X.env = (false, eval (.Name y p2) X.env) :: starEach es X.env := by rfl) (hpl : (backTo pos (starEach es X.env)).any (·.1) = false := by rfl) :
    PE X (.Call (.Name x p) (.Name y p2 :: es) [] pos) (tD X.K C (mCallW spec i ma)) := by
  obtain ⟨f, fd, ps, F, hm, hkp, hb⟩ := c.ex
  exact pe_imp (pe_callG F (hr.mono hk) hg hm hkp hb (passAt tk) (pa_cons hy ha he) hdb he hpl) td_callW
/-- the def's order out of what is given by place and by keyword -/
structure Ord (g : {α : Type} → List α → List α → List α) : Prop where
  rel : ∀ {α β : Type} (R : α → β → Prop) {as cs : List α} {bs ds : List β}, Paired R as bs → Paired R cs ds → Paired R (g as cs) (g bs ds)
theorem rpA_paired {F : Hp} : ∀ {vs : List V} {ds : List PyData}, RpA K F vs ds → Paired (Rp K F) vs ds
  | _, _, .nil => .nil
  | _, _, .cons h r => .cons h (rpA_paired r)
theorem paired_rpA {F : Hp} : ∀ {vs : List V} {ds : List PyData}, Paired (Rp K F) vs ds → RpA K F vs ds
  | _, _, .nil => .nil
  | _, _, .cons h r => .cons h (paired_rpA r)
structure CalK (P : Program) (w : World) (K : PySem.W.Frag) (mg : Str → Option Value) (base : Heap) (CN : String → Option Addr) (k : Nat) (x : Str) (spec : PSpec) (ks : List Str) (g : {α : Type} → List α → List α → List α) : Prop where
  ex : ∃ f fd ps, FnG P w K mg base k f fd ps (spP K CN spec) ∧ mg x = some (.ref f) ∧ PySem.W.keepIn K (.ref f) = true ∧ KBinds K fd ps ks g g
  ord : Ord g
theorem td_callK {CN : String → Option Addr} {spec : PSpec} {W : WD} {ma mk : MA} {g : {α : Type} → List α → List α → List α} (og : Ord g) : ∀ σ H Q, tD K C (mCallK spec W g ma mk) σ H Q → tCallGK (spP K CN spec) g (WE (wD K C CN W)) (tDA K C ma) (tDA K C mk) σ H Q := by
  rintro σ H Q ⟨F, sd, Qd, R, h, k⟩
  refine ⟨F, sd, _, R, h, fun vs H1 F1 ds sd1 R1 S1 rs h1 => ⟨F1, sd1, _, R1, h1, fun zs H2 F2 es sd2 R2 S2 rz h2 => ?_⟩⟩
  refine ⟨F2, g ds es, _, _, R2.ext, paired_rpA (og.rel _ (rpA_paired (rs.mono S2.fr)) (rpA_paired rz)), h2, fun v H' F' r P ro q => ?_, fun c a H' F' hc P q => ?_⟩
  · obtain ⟨d, hf, q⟩ := q
    obtain ⟨R3, S3⟩ := R2.post P
    have S12 := S1.trans S2
    obtain ⟨F3, R4, S4, rp⟩ := R3.res (S12.trans S3) ro (fun p hp => ⟨S12.st p hp, fun z => (R2.fresh hp).1 (S3.ow p z), (R2.fresh hp).2⟩) hf
    exact k v H' F3 d sd2 R4 S4 rp q
  · exact ⟨c, a, F', sd2, hc, rfl, rfl, (R2.post P).1, q⟩
theorem pd_callK {CN : String → Option Addr} {spec : PSpec} {W : WD} {ma mk : MA} {x : Str} {p pos : Pos} {e : Expr} {es : List Expr} {kws : List Keyword} {ks : List Str} {k j : Nat} {g : {α : Type} → List α → List α → List α} (c : CalK X.prog X.w X.K X.mg X.base CN k x spec ks g) (hr : RoomG j X.A) (hk : k ≤ j) (tk : Takes X (wD X.K C CN W))
    (ha : PA X (e :: es) (tDA X.K C ma)) (hkw : PK X kws (tDA X.K C mk)) (hg : Gl X x := by rfl) (hall : (backToKw pos (keywordEach kws X.env)).all (·.1.isSome) = true := by rfl) (hks : (backToKw pos (keywordEach kws X.env)).filterMap (·.1) = ks := by rfl)
    (hdb : (x == ("__debug__" : Str)) = false := by decide) (he : starEach (e :: es) X.env = (false, eval e X.env) :: starEach es X.env := by rfl)
    (hpl : ((backTo pos (starEach (e :: es) X.env)).any (·.1) || (backToKw pos (keywordEach kws X.env)).any (·.1.isNone)) = false := by rfl) : PE X (.Call (.Name x p) (e :: es) kws pos) (tD X.K C (mCallK spec W g ma mk)) := by
  obtain ⟨f, fd, ps, F, hm, hkp, hb⟩ := c.ex
  exact pe_imp (pe_callGK F (hr.mono hk) hg hm hkp hb (passAt tk) ha hkw hall hks hdb he hpl) (td_callK c.ord)
theorem pd_callK0 {CN : String → Option Addr} {spec : PSpec} {W : WD} {mk : MA} {x : Str} {p pos : Pos} {kws : List Keyword} {ks : List Str} {k j : Nat} {g : {α : Type} → List α → List α → List α} (c : CalK X.prog X.w X.K X.mg X.base CN k x spec ks g) (hr : RoomG j X.A) (hk : k ≤ j) (tk : Takes X (wD X.K C CN W))
    (hkw : PK X kws (tDA X.K C mk)) (hg : Gl X x := by rfl) (hall : (backToKw pos (keywordEach kws X.env)).all (·.1.isSome) = true := by rfl) (hks : (backToKw pos (keywordEach kws X.env)).filterMap (·.1) = ks := by rfl)
    (hdb : (x == ("__debug__" : Str)) = false := by decide) (hpl : ((backTo pos (starEach [] X.env)).any (·.1) || (backToKw pos (keywordEach kws X.env)).any (·.1.isNone)) = false := by rfl) : PE X (.Call (.Name x p) [] kws pos) (tD X.K C (mCallK spec W g mNil mk)) := by
  obtain ⟨f, fd, ps, F, hm, hkp, hb⟩ := c.ex
  refine pe_imp (pe_callGK0 F (hr.mono hk) hg hm hkp hb (passAt tk) hkw hall hks hdb hpl) fun σ H Q h => ?_
  have h' := td_callK (CN := CN) c.ord σ H Q h
  obtain ⟨F, sd, Qd, R, h1, h2⟩ := h'
  exact h2 [] H F [] sd R .refl .nil h1
/-- a call without arguments -/
theorem pd_call0 {CN : String → Option Addr} {spec : PSpec} {W : WD} {x : Str} {p pos : Pos} {k j : Nat} (c : CalP X.prog X.w X.K X.mg X.base CN k x spec) (hr : RoomG j X.A) (hk : k ≤ j) (tk : Takes X (wD X.K C CN W)) (hg : Gl X x := by rfl)
    (hdb : (x == ("__debug__" : Str)) = false := by decide) : PE X (.Call (.Name x p) [] [] pos) (tD X.K C (mCall spec W mNil)) := by
  obtain ⟨f, fd, ps, F, hm, hkp, hb⟩ := c.ex
  refine pe_imp (pe_callG0 F (hr.mono hk) hg hm hkp hb (passAt tk) hdb) fun σ H Q h => ?_
  obtain ⟨F, sd, Qd, R, h1, h2⟩ := td_call (CN := CN) σ H Q h
  exact h2 [] H F [] sd R .refl .nil h1
end
end DL
namespace DL
open PySem PySem.Spec PyProof.Rows L2
/-- a def's body's context -/
abbrev cxD (P : Program) (w : World) (K : PySem.W.Frag) (mg : Str → Option Value) (base : Heap) (N : List Str) (qual : Str) (sc : Scope) (f : Addr) (cdv : Value) (A : Around) (outer : List Env) (s : Shared) (H : Hp) (E : XK) : Cx :=
  cxOf (L2.CX P w) P w K mg base N qual sc f cdv A outer s H E
theorem sget_va : ∀ {ds : List PyData} {k i : Nat} {s : S}, sget (ds.map S.va ++ List.replicate k .no) i = s → (∃ d, ds[i]? = some d ∧ s = .va d) ∨ s = .no
  | [], k, i, s, h => by
    right
    rw [← h]
    have : ∀ (k i : Nat), sget (List.replicate k S.no) i = .no := by
      intro k
      induction k with
      | zero => intro _; rfl
      | succ k ih => intro i; cases i with
        | zero => rfl
        | succ i => exact ih i
    exact this k i
  | d :: ds, k, 0, s, h => .inl ⟨d, rfl, h.symm⟩
  | d :: ds, k, i + 1, s, h => by
    rcases sget_va (ds := ds) (k := k) (i := i) h with ⟨d', h1, h2⟩ | h
    · exact .inl ⟨d', by simpa using h1, h2⟩
    · exact .inr h
theorem start_gv {N : List Str} {vs : List V} {i : Nat} {v : V} (h : vs[i]? = some v) : gv (L2.start N vs) i = some v := by
  unfold L2.start gv
  have hi := (List.getElem?_eq_some_iff.mp h).1
  rw [List.getElem?_append_left (by simpa using hi), List.getElem?_map, h]
  rfl
section
variable {P : Program} {w : World} {K : PySem.W.Frag} {mg : Str → Option Value} {base : Heap} {CN : String → Option Addr}
theorem rs_start {F H : Hp} {N : List Str} {vs : List V} {ds : List PyData} (e : Same F H) (r : RpA K F vs ds) (hl : ds.length ≤ N.length) : Rs K ⟨F, H, fun _ => False, false⟩ F H (L2.start N vs) (slots0 N.length ds) where
  len := by unfold L2.start slots0; simp [r.length]
  grow := Same.refl _
  ext := e
  new := fun a o h => .inl h
  keep := fun a o h _ => h
  still := fun a h => h
  slot := fun i => by
    rcases sget_va (s := sget (slots0 N.length ds) i) rfl with ⟨d, h1, h2⟩ | h
    · rw [h2]
      obtain ⟨v, e1, rv⟩ := r.get h1
      exact ⟨v, start_gv e1, rv⟩
    · rw [h]; trivial
  sep := fun i j p _ o _ _ => by
    rcases sget_va (s := sget (slots0 N.length ds) i) rfl with ⟨d, h1, h2⟩ | h
    · rw [h2] at o; cases o
    · rw [h] at o; cases o
theorem takes_cxD {N : List Str} {qual : Str} {sc : Scope} {f : Addr} {cdv : Value} {A : Around} {outer : List Env} {s : Shared} {H : Hp} {E : XK} {W : WX} (h : ∀ cls d σ H, W cls d σ H → E cls d H) : Takes (cxD P w K mg base N qual sc f cdv A outer s H E) W :=
  (takes_of (X := cxD P w K mg base N qual sc f cdv A outer s H E) rfl rfl rfl rfl).imp h
/-- a def that is handed data -/
theorem fun_okP {x qual : Str} {st : Stmt} {f : Addr} {fd : FuncData} {N ps : List Str} {k : Nat} {spec : PSpec} {m : WD → MS} (F : Fun K x qual st f fd) (S : FnScope N ps (defScope st)) (hN : ps.length ≤ N.length) (len : ∀ ds Q E, spec ds Q E → ds.length = ps.length)
    (hbody : ∀ (cdv : Value) (A : Around) (outer : List Env) (s : Shared) (H : Hp) (E : XK) (C : Ct) (W : WD), C.isW = false → RoomG k (A.deeper (envOfC qual (defScope st) s.heap.objs.size f cdv)) →
      Takes (cxD P w K mg base N qual (defScope st) f cdv A outer s H E) (wD K C CN W) → PSs (cxD P w K mg base N qual (defScope st) f cdv A outer s H E) (defBody st) (tDS K C (m W)))
    (rd : ∀ ds Q E, spec ds Q E → m (fun c _ => E c) (endP Q) (slots0 N.length ds)) : FnG P w K mg base (k + 1) f fd ps (spP K CN spec) := by
  refine fun_okG F S (fun vs H Q E h => ?_) (fun cdv A outer s H vs Q E hr h => ?_)
  · obtain ⟨F0, ds, Qd, Ed, _, r, hs, _⟩ := h
    rw [r.length]; exact len _ _ _ hs
  · obtain ⟨F0, ds, Qd, Ed, e, r, hs, hq, he⟩ := h
    have R0 := rs_start (N := N) e r (by rw [len _ _ _ hs]; exact hN)
    have post : ∀ {F1 H1 : Hp} {σ : L2.St} {sd : DSt}, Rs K ⟨F0, H, fun _ => False, false⟩ F1 H1 σ sd → Post K F0 H F1 H1 := fun R => ⟨R.grow, R.ext, fun a o z => R.keep a o z (fun q => q), R.new⟩
    refine ⟨_, hbody cdv A outer s H E ⟨F0, H, fun _ => False, false⟩ (fun c _ => Ed c) rfl hr (takes_cxD fun cls d σ H' hw => ?_), F0, _, endP Qd, R0, ⟨fun F1 H1 σ sd _ R q => ?_, fun F1 H1 σ sd v r _ R rv own q => ?_, fun _ _ _ _ _ _ z => z.elim, fun _ _ _ _ _ _ z => z.elim⟩, rd ds Qd Ed hs⟩
    · obtain ⟨c, a, F1, sd, hc, rfl, rfl, R, q⟩ := hw
      exact he c a H' F1 hc (post R) q
    · exact hq .non H1 F1 (.va .none) (post R) .non q
    · refine hq v H1 F1 r (post R) ?_ q
      cases r with
      | no => trivial
      | va d => obtain ⟨v', e1, q⟩ := rv; cases e1; exact q
      | own ds' => obtain ⟨p, vs', e1, h1, h2, h3, h4⟩ := rv; cases e1; exact ⟨p, vs', rfl, h1, h2, h3, h4⟩
      | scr ns => obtain ⟨p, e1, h1⟩ := rv; cases e1; exact ⟨p, rfl, h1⟩
      | exc a => exact Option.some.inj rv
      | well n => obtain ⟨p, a, b, c, e1, h1, h2, h3, h4⟩ := rv; cases e1; exact ⟨p, a, b, c, rfl, h1, h2, own rfl p rfl, h4⟩
theorem rs_startW {F H : Hp} {N : List Str} {p : Addr} {vs : List V} {ds : List PyData} {n : Nat} {a b c : Int} (e : Same F H) (hF : F p = none) (hp : H p = some (.lst [.int a, .int b, .int c])) (hw : WellOk n a b c) (r : RpA K F vs ds) (hl : ds.length + 1 ≤ N.length) :
    Rs K ⟨F, H, fun q => q = p, true⟩ F H (L2.start N (.ref p :: vs)) (slotsW N.length n ds) where
  len := by unfold L2.start slotsW slots0; simp [r.length]; omega
  grow := Same.refl _
  ext := e
  new := fun a o h => .inl h
  keep := fun a o h _ => h
  still := fun a h => h
  slot := fun i => by
    cases i with
    | zero => exact ⟨p, a, b, c, rfl, hp, hF, .inl ⟨rfl, rfl⟩, hw⟩
    | succ i =>
      show SlotOk K _ F H _ (sget (slots0 (N.length - 1) ds) i)
      rcases sget_va (s := sget (slots0 (N.length - 1) ds) i) rfl with ⟨d, h1, h2⟩ | h
      · rw [h2]
        obtain ⟨v, e1, rv⟩ := r.get h1
        exact ⟨v, start_gv (i := i + 1) (by simpa using e1), rv⟩
      · rw [h]; trivial
  sep := fun i j q hij o1 o2 => by
    have z : ∀ k, isOwn (sget (slotsW N.length n ds) k) = true → k = 0 := fun k o => by
      cases k with
      | zero => rfl
      | succ k =>
        have o : isOwn (sget (slots0 (N.length - 1) ds) k) = true := o
        rcases sget_va (s := sget (slots0 (N.length - 1) ds) k) rfl with ⟨d, h1, h2⟩ | h
        · rw [h2] at o; cases o
        · rw [h] at o; cases o
    exact absurd ((z i o1).trans (z j o2).symm) hij
theorem fun_okW {x qual : Str} {st : Stmt} {f : Addr} {fd : FuncData} {N ps : List Str} {k : Nat} {spec : WSpec} {m : MS} (F : Fun K x qual st f fd) (S : FnScope N ps (defScope st)) (hN : ps.length ≤ N.length) (len : ∀ n ds Q, spec n ds Q → ds.length + 1 = ps.length)
    (hbody : ∀ (cdv : Value) (A : Around) (outer : List Env) (s : Shared) (H : Hp) (E : XK) (C : Ct), RoomG k (A.deeper (envOfC qual (defScope st) s.heap.objs.size f cdv)) →
      Takes (cxD P w K mg base N qual (defScope st) f cdv A outer s H E) (wD K C CN fun _ _ => False) → PSs (cxD P w K mg base N qual (defScope st) f cdv A outer s H E) (defBody st) (tDS K C m))
    (rd : ∀ n ds Q, spec n ds Q → m (endW Q) (slotsW N.length n ds)) : FnG P w K mg base (k + 1) f fd ps (spW K spec) := by
  refine fun_okG F S (fun vs H Q E h => ?_) (fun cdv A outer s H vs Q E hr h => ?_)
  · obtain ⟨F0, p, ws, n, a, b, c, ds, Qd, rfl, _, _, _, _, r, hs, _⟩ := h
    have := len _ _ _ hs
    have := r.length
    simp; omega
  · obtain ⟨F0, p, ws, n, a, b, c, ds, Qd, rfl, e, hF, hp, hw, r, hs, hq⟩ := h
    have R0 := rs_startW (N := N) e hF hp hw r (by rw [len _ _ _ hs]; exact hN)
    have post : ∀ {F1 H1 : Hp} {σ : L2.St} {sd : DSt} {n' : Nat}, Rs K ⟨F0, H, fun q => q = p, true⟩ F1 H1 σ sd → sget sd 0 = .well n' → PostW K p F0 H F1 H1 n' := fun {F1 H1 σ sd n'} R h0 => by
      have hs0 := R.slot 0
      rw [h0] at hs0
      obtain ⟨p', a', b', c', _, z2, _, z4, z5⟩ := hs0
      refine ⟨R.grow, R.ext, fun a o za z => R.keep a o z za, R.new, ?_⟩
      rcases z4 with z4 | z4
      · have : p' = p := z4.2
        subst this
        exact ⟨a', b', c', z2, z5⟩
      · cases z4.1
    refine ⟨_, hbody cdv A outer s H E ⟨F0, H, fun q => q = p, true⟩ hr (takes_cxD fun cls d σ H' hw => ?_), F0, _, endW Qd, R0, ⟨fun F1 H1 σ sd _ R q => ?_, fun F1 H1 σ sd v r _ R rv own q => ?_, fun _ _ _ _ _ _ z => z.elim, fun _ _ _ _ _ _ z => z.elim⟩, rd n ds Qd hs⟩
    · obtain ⟨c, a, F1, sd, hc, _, _, R, q⟩ := hw
      exact q.elim
    · obtain ⟨n', h0, q⟩ := q
      exact hq .non H1 F1 (.va .none) n' (post R h0) .non q
    · obtain ⟨n', h0, q⟩ := q
      refine hq v H1 F1 r n' (post R h0) ?_ q
      cases r with
      | no => trivial
      | va d => obtain ⟨v', e1, q⟩ := rv; cases e1; exact q
      | own ds' => obtain ⟨p, vs', e1, h1, h2, h3, h4⟩ := rv; cases e1; exact ⟨p, vs', rfl, h1, h2, h3, h4⟩
      | scr ns => obtain ⟨p, e1, h1⟩ := rv; cases e1; exact ⟨p, rfl, h1⟩
      | exc a => exact Option.some.inj rv
      | well n => obtain ⟨p, a, b, c, e1, h1, h2, h3, h4⟩ := rv; cases e1; exact ⟨p, a, b, c, rfl, h1, h2, own rfl p rfl, h4⟩
end
section
variable {K : PySem.W.Frag} {X : Cx} {C : Ct}
theorem pmk_own0 {c : Addr} {bmB : List Value} {B newId initId : String} {x : Str} {p pos : Pos} (F : ExcBaseFacts B newId initId bmB) (q : PySem.W.excIn X.K c bmB newId = true) (gC : X.mg x = some (.ref c)) (kC : PySem.W.keepIn X.K (.ref c) = true) (r : Raises X (.ref c)) (hg : Gl X x)
    (hdb : (x == ("__debug__" : Str)) = false := by decide) : PMk X (.Call (.Name x p) [] [] pos) (fun _ H Q => Q (.ref c) none H) := by
  intro pins s σ H Q I h
  refine wpAny_Call_Name_kw (ld_glob I hg gC (PySem.W.callWith_K0 I.kIn kC ?_) hdb)
  obtain ⟨bm, N, nm, qn, bs, hdct, sn, sub, ab, col, dd, k0, k1, k2, k3, k5, mN, hC, hN, hni, T⟩ := exc_obj I.kIn q
  obtain ⟨hp, g, d, t, os⟩ := s
  exact wpAny_call_exc_subT F T hC hN hni (fun h' e hm => mk_of I hm r h (I.hok.gone hm.new)) (Nat.zero_le _)
/-- what the written part says of an own error class over ValueError -/
structure ExcCls (K : PySem.W.Frag) (mg : Str → Option Value) (x : Str) (c : Addr) : Prop where
  gC : mg x = some (.ref c)
  q : PySem.W.excIn K c [.type "ValueError", .type "Exception", .type "BaseException", .type "object"] "ValueError.__new__" = true
  kC : PySem.W.keepIn K (.ref c) = true
  b : PySem.W.subIn K (.ref c) (.type "BaseException") = some true
  t : PySem.W.typeIn K (.ref c) = some (.type "type")
theorem pds_raise {CN : String → Option Addr} {W : WD} {cn : String} {x : Str} {c : Addr} {p pos pos2 : Pos} (hc : X.calm = true) (tk : Takes X (wD X.K C CN W)) (T : ExcCls X.K X.mg x c) (hn : CN cn = some c) (hg : Gl X x := by rfl) (hdb : (x == ("__debug__" : Str)) = false := by decide) :
    PS X (.Raise (some (.Call (.Name x p) [] [] pos)) none pos2) (tDS X.K C (mRaise cn W)) := ps_imp (ps_raise hc tk (pmk_own0 PySem.F.excBase_ValueError T.q T.gC T.kC (raises_own T.b T.t) hg hdb)) (by
  rintro D σ H ⟨F, sd, Dd, R, E, h⟩
  exact ⟨cn, c, F, sd, hn, rfl, rfl, R, h⟩)
end
end DL
namespace DL
open PySem PySem.Spec PyProof.Rows L2
mutual
/-- every dict in it is empty -/
def dE : PyData → Bool
  | .none | .bool _ | .int _ | .str _ => true
  | .list xs => dEs xs
  | .tuple xs => dEs xs
  | .dict kvs => kvs.isEmpty
def dEs : List PyData → Bool
  | [] => true
  | x :: xs => dE x && dEs xs
end
mutual
def noL : PyData → Bool
  | .none | .bool _ | .int _ | .str _ => true
  | .list _ => false
  | .tuple xs => noLs xs
  | .dict kvs => kvs.isEmpty
def noLs : List PyData → Bool
  | [] => true
  | x :: xs => noL x && noLs xs
end
def reprOk (d : PyData) : Bool := dE d && (!d.hasDict || noL d) && d.showable && decide (d.shown.length ≤ 1000000) && decide (d.depth ≤ 64)
def bRepr : List PyData → Option PyData
  | [d] => if reprOk d = true then some (.str d.shown) else none
  | _ => none
section
variable {X : Cx} {pins : List (Addr × Obj)} {σ : L2.St} {H : Hp} {s : Shared} {K : PySem.W.Frag}
mutual
theorem Rp.reads (I : Inv X pins σ H s) {F : Hp} (e : Same F H) : ∀ (d : PyData) (v : V) (u : Value), Rp X.K F v d → RelV v u → dE d = true → ∃ as, Reads s.heap u d as ∧ (noL d = true → sysModules ∉ as)
  | .none, _, _, h, r, _ => by cases h; cases r; exact ⟨_, .none, fun _ z => nomatch z⟩
  | .bool b, _, _, h, r, _ => by cases h; cases r; exact ⟨_, .bool b, fun _ z => nomatch z⟩
  | .int i, _, _, h, r, _ => by cases h; obtain ⟨t, rfl⟩ := r; exact ⟨_, .int i t, fun _ z => nomatch z⟩
  | .str x, _, _, h, r, _ => by cases h; obtain ⟨t, rfl⟩ := r; exact ⟨_, .str x t, fun _ z => nomatch z⟩
  | .list ds, _, _, h, r, hd => by
    cases h with
    | lst hs ha =>
      cases r
      obtain ⟨z, its, n, rv, e1⟩ := I.hok _ _ (e _ _ hs)
      obtain ⟨as, hr, _⟩ := RpA.reads I e ds _ its ha rv (by simpa [dE] using hd)
      exact ⟨_, .list e1 rfl rfl hr, fun z => by simp [noL] at z⟩
  | .tuple ds, _, _, h, r, hd => by
    cases h with
    | tup hs ha =>
      cases r
      obtain ⟨its, rv, ⟨o, ho, hc, n, hdt⟩, _⟩ := I.tuple (same_t e hs)
      obtain ⟨as, hr, hn⟩ := RpA.reads I e ds _ its ha rv (by simpa [dE] using hd)
      exact ⟨_, .tuple ho hc hdt hr, fun z => hn (by simpa [noL] using z)⟩
  | .dict es, _, _, h, r, hd => by
    cases h with
    | dct hs ha =>
      cases r
      have he : es = [] := by simpa [dE] using hd
      subst he
      cases ha
      obtain ⟨z, y, vs, rv, o, es', ep, h1, h2, h3, h4, h5, h6⟩ := I.hok _ _ (e _ _ hs)
      cases rv
      have h7 : es'.toList = [] := by
        cases q : es'.toList with
        | nil => rfl
        | cons a l => rw [q] at h5; cases h5
      exact ⟨_, .dict h1 h2.1 h3 (by rw [h7]; exact .nil) (by rw [h7]; exact .nil), fun _ hm => by
        simp at hm
        rw [hm] at y
        simp at y⟩
theorem RpA.reads (I : Inv X pins σ H s) {F : Hp} (e : Same F H) : ∀ (ds : List PyData) (vs : List V) (us : List Value), RpA X.K F vs ds → Vals vs us → dEs ds = true → ∃ as, ReadsAll s.heap us ds as ∧ (noLs ds = true → sysModules ∉ as)
  | [], _, _, h, r, _ => by cases h; cases r; exact ⟨_, .nil, fun _ z => nomatch z⟩
  | d :: ds, _, _, h, r, hd => by
    have hd' : dE d = true ∧ dEs ds = true := by simpa [dEs] using hd
    cases h with
    | cons h1 h2 =>
      cases r with
      | cons r1 r2 =>
        obtain ⟨as, q1, n1⟩ := Rp.reads I e d _ _ h1 r1 hd'.1
        obtain ⟨bs, q2, n2⟩ := RpA.reads I e ds _ _ h2 r2 hd'.2
        refine ⟨_, .cons q1 q2, fun z hm => ?_⟩
        have z' : noL d = true ∧ noLs ds = true := by simpa [noLs] using z
        rcases List.mem_append.mp hm with hm | hm
        · exact n1 z'.1 hm
        · exact n2 z'.2 hm
end
def rRepr (K : PySem.W.Frag) : List V → Hp → VK → Prop := fun xs H Q => ∃ x d F, xs = [x] ∧ Same F H ∧ Rp K F x d ∧ reprOk d = true ∧ Q (.str d.shown) H
theorem cr_repr {k : Nat} (hr : RoomG k X.A) : CallR X (.builtin "repr") (rRepr X.K) := by
  intro pins s σ H xs us Q I r h
  obtain ⟨x, d, F, rfl, e, rp, ok, q⟩ := h
  obtain ⟨u, rfl, ru⟩ := vals1 r
  unfold reprOk at ok
  simp only [Bool.and_eq_true, Bool.or_eq_true, Bool.not_eq_true', decide_eq_true_eq] at ok
  obtain ⟨⟨⟨⟨o1, o2⟩, o3⟩, o4⟩, o5⟩ := ok
  have hl : d.shown.length ≤ sizeLine := Nat.le_trans o4 (by decide)
  have hun := hr.r.un
  obtain ⟨as, rd, na⟩ := Rp.reads I e d x u rp ru o1
  have hd : d.hasDict = true → sysModules ∉ as := fun z => o2.elim (fun w => by rw [w] at z; cases z) na
  have big : ∀ {a : Addr}, u = .ref a → wpAny (model X.prog X.w) X.A (call (.builtin "repr") [u]) (EP X pins σ Q) X.xe s := fun {a} eu => by
    subst eu
    exact repr_of_reads' rd o3 hd hr.g (by omega) (fun _ _ z => z) (fun h' u' tk hk => ⟨.str _, H, I.kept (t' := tk) hk, ⟨_, rfl⟩, q⟩) hl
  cases rp with
  | non => cases ru; exact PySem.P.repr_of_none ⟨.str _, H, I.tok _, ⟨_, rfl⟩, q⟩
  | bl b => cases ru; exact PySem.P.repr_of_bool ⟨.str _, H, I.tok _, ⟨_, rfl⟩, by cases b <;> exact q⟩
  | int i => obtain ⟨t, rfl⟩ := ru; exact PySem.P.repr_of_int (by simpa [PyData.showable] using o3) ⟨.str _, H, I.tok _, ⟨_, rfl⟩, q⟩
  | str z => obtain ⟨t, rfl⟩ := ru; exact PySem.P.repr_of_str ⟨.str _, H, I.tok _, ⟨_, rfl⟩, q⟩ (by simpa only [PyData.shown] using hl)
  | lst _ _ => exact big ru
  | tup _ _ => exact big ru
  | dct _ _ => exact big ru
theorem rc_repr {K : PySem.W.Frag} : RLC K (rRepr K) bRepr := by
  intro F H xs as z Q e _ rx h k
  unfold bRepr at h
  split at h
  · obtain ⟨x, rfl, r⟩ := rpA1 rx
    split at h
    · rename_i ok
      cases h
      exact ⟨x, _, F, rfl, e, r, ok, k _ F H .id (.str _)⟩
    · cases h
  · cases h
theorem pd_dict0 {C : Ct} {pos : Pos} : PE X (.Dict [] [] pos) (tD X.K C mDict0) := pe_imp pe_dnewK (by
  rintro σ H Q ⟨F, sd, Qd, R, h, k⟩ p hp
  exact k (.ref p) _ _ _ sd (R.al (.new hp)) (.al R (.new hp)) (.dct upd_same .nil) h)
end
end DL
namespace DL
open PySem PySem.Spec PyProof.Rows L2
section
variable {K : PySem.W.Frag} {X : Cx} {C : Ct}
structure RsA (K : PySem.W.Frag) (C : Ct) (F H H0 : Hp) (σ : L2.St) (sd : DSt) (vs : List V) (rs : List S) : Prop where
  len : vs.length = rs.length
  ok : ∀ (i : Nat) (v : V) (r : S), vs[i]? = some v → rs[i]? = some r → RvOk K C F H v r ∧ Fre σ sd v r ∧ (isOwn r = true → ∀ q, v = .ref q → H0 q = none)
  ne : ∀ (i j : Nat) (v w : V) (r u : S), i < j → vs[i]? = some v → vs[j]? = some w → rs[i]? = some r → rs[j]? = some u → isOwn r = true → isOwn u = true → v ≠ w
def tDAR (K : PySem.W.Frag) (C : Ct) (ms : List MR) : TA := fun σ H Q => ∃ F sd Qd, Rs K C F H σ sd ∧ mrs ms sd Qd ∧ ∀ vs H' F' rs sd', Rs K C F' H' σ sd' → Stp σ sd F H F' H' sd' → RsA K C F' H' H σ sd' vs rs → Qd rs sd' → Q vs H'
theorem pdar_nil : PA X [] (tDAR X.K C []) := pa_imp pa_nil (by
  rintro σ H Q ⟨F, sd, Qd, R, h, k⟩
  exact k [] H F [] sd R .refl ⟨rfl, fun i v r h => by simp at h, fun i j v w r u _ h => by simp at h⟩ h)
theorem rv_step {F H F' H' : Hp} {σ : L2.St} {sd sd' : DSt} {v : V} {r : S} (h : RvOk K C F H v r) (fre : Fre σ sd v r) (S : Stp σ sd F H F' H' sd') : RvOk K C F' H' v r ∧ Fre σ sd' v r := by
  refine ⟨SlotOk.grow S.fr (fun q o ho e eh en => ?_) h, fun o q e z => fre o q e (S.ow q z)⟩
  cases e
  have nq := fre ho q rfl
  refine ⟨S.kp q o eh nq, ?_⟩
  cases z : F' q with
  | none => rfl
  | some y =>
    rcases S.nw q y z with z | z | z
    · rw [en] at z; cases z
    · rw [eh] at z; cases z
    · exact (nq z).elim
theorem pdar_cons {e : Expr} {es : List Expr} {m : MR} {ms : List MR} (he : PE X e (tDR X.K C m)) (hr : PA X es (tDAR X.K C ms)) (hs : starEach (e :: es) X.env = (false, eval e X.env) :: starEach es X.env := by rfl) : PA X (e :: es) (tDAR X.K C (m :: ms)) :=
  pa_imp (pa_cons he hr hs) (by
  rintro σ H Q ⟨F, sd, Qd, R, h, k⟩
  refine ⟨F, sd, _, R, h, fun v H1 F1 r sd1 R1 S1 rv fre new h1 => ⟨F1, sd1, _, R1, h1, fun ws H2 F2 us sd2 R2 S2 A h2 => ?_⟩⟩
  obtain ⟨rv2, fre2⟩ := rv_step rv fre S2
  refine k (v :: ws) H2 F2 (r :: us) sd2 R2 (S1.trans S2) ⟨by simp [A.len], fun i v' r' e1 e2 => ?_, fun i j v' w' r' u' hij e1 e2 e3 e4 o1 o2 => ?_⟩ h2
  · cases i with
    | zero => cases e1; cases e2; exact ⟨rv2, fre2, new⟩
    | succ i =>
      obtain ⟨a, b, c⟩ := A.ok i v' r' (by simpa using e1) (by simpa using e2)
      exact ⟨a, b, fun o q e => S1.st q (c o q e)⟩
  · cases j with
    | zero => omega
    | succ j =>
      cases i with
      | succ i => exact A.ne i j v' w' r' u' (by omega) (by simpa using e1) (by simpa using e2) (by simpa using e3) (by simpa using e4) o1 o2
      | zero =>
        cases e1; cases e3
        intro z
        subst z
        obtain ⟨a, b, c⟩ := A.ok j _ u' (by simpa using e2) (by simpa using e4)
        -- what is owned in u' is new behind the first
        have hv : ∃ q o, v = .ref q ∧ H1 q = some o := by
          cases r with
          | no => cases o1
          | va d => cases o1
          | scr d => cases o1
          | exc d => cases o1
          | own ds => obtain ⟨q, vs, e, h1, _⟩ := rv; cases e; exact ⟨q, _, rfl, h1⟩
          | well n => obtain ⟨q, x, y, z, e, h1, _⟩ := rv; cases e; exact ⟨q, _, rfl, h1⟩
        obtain ⟨q, o, e, hq⟩ := hv
        have := c o2 q e
        rw [hq] at this; cases this)
theorem rsA_tail {F H H0 : Hp} {σ : L2.St} {sd : DSt} {v : V} {r : S} {vs : List V} {rs : List S} {i : Nat} (A : RsA K C F H H0 σ sd (v :: vs) (r :: rs)) : RsA K C F H H0 (σ.set i (some v)) (sset sd i r) vs rs := by
  refine ⟨by simpa using A.len, fun j w u e1 e2 => ?_, fun a b v' w' r' u' hab e1 e2 e3 e4 o1 o2 => A.ne (a + 1) (b + 1) v' w' r' u' (by omega) (by simpa using e1) (by simpa using e2) (by simpa using e3) (by simpa using e4) o1 o2⟩
  obtain ⟨x1, x2, x3⟩ := A.ok (j + 1) w u (by simpa using e1) (by simpa using e2)
  refine ⟨x1, fun o q e z => ?_, x3⟩
  obtain ⟨k, ok, ek⟩ := z
  by_cases hk : k = i
  · subst hk
    have own_r : isOwn r = true ∧ v = .ref q := by
      by_cases hl : k < sd.length
      · rw [sget_sset hl] at ok
        refine ⟨ok, ?_⟩
        by_cases hσ : k < σ.length
        · rw [gv_set hσ] at ek; exact Option.some.inj ek
        · have : gv (σ.set k (some v)) k = none := by
            unfold gv
            rw [List.getElem?_eq_none (by rw [List.length_set]; omega)]
            rfl
          rw [this] at ek; cases ek
      · rw [sget_out (by rw [sset_length]; omega)] at ok; cases ok
    exact A.ne 0 (j + 1) v w r u (by omega) rfl (by simpa using e1) rfl (by simpa using e2) own_r.1 o (own_r.2.trans e.symm)
  · rw [sget_sset_ne hk] at ok
    rw [gv_set_ne hk] at ek
    exact x2 o q e ⟨k, ok, ek⟩
theorem rsA_sets {F H H0 : Hp} : ∀ {is : List Nat} {vs : List V} {rs : List S} {σ : L2.St} {sd : DSt}, Rs K C F H σ sd → RsA K C F H H0 σ sd vs rs → Rs K C F H ((is.zip vs).foldl (fun σ p => σ.set p.1 (some p.2)) σ) (ssets sd is rs)
  | [], _, _, _, _, R, _ => by simpa [ssets] using R
  | i :: is, [], rs, σ, sd, R, A => by
    have : rs = [] := by
      have := A.len
      cases rs with
      | nil => rfl
      | cons a l => simp at this
    subst this
    simpa [ssets] using R
  | i :: is, v :: vs, [], σ, sd, R, A => by have := A.len; simp at this
  | i :: is, v :: vs, r :: rs, σ, sd, R, A => by
    obtain ⟨x1, x2, _⟩ := A.ok 0 v r rfl rfl
    exact rsA_sets (σ := σ.set i (some v)) (sd := sset sd i r) (R.setr x1 x2) (rsA_tail A)
def tPar2 (i j : Nat) (ta : TA) : TS := fun D σ H => ta σ H fun vs H1 => ∃ u v, vs = [u, v] ∧ D.nx ((σ.set i (some u)).set j (some v)) H1
theorem ps_par2 {i j : Nat} {x y : Str} {a b : Expr} {ta : TA} {px py pt pos : Pos} {kt k2 pt2} (hc : X.calm = true) (hN : X.N.Nodup) (hi : X.N[i]? = some x) (hj : X.N[j]? = some y) (hij : i ≠ j)
    (hx : X.env.scope.names.lookup x = some .local) (hy : X.env.scope.names.lookup y = some .local) (ha : PA X [a, b] ta)
    (hw : swappedStores [.Tuple [.Name x px, .Name y py] kt pt] (.Tuple [a, b] k2 pt2) X.env = pure (some [x, y])) (hs : swapsWithSole [.Tuple [.Name x px, .Name y py] kt pt] (.Tuple [a, b] k2 pt2) pos.line X.env = pure false := by rfl) :
    PS X (.Assign [.Tuple [.Name x px, .Name y py] kt pt] (.Tuple [a, b] k2 pt2) pos) (tPar2 i j ta) := by
  refine ⟨fun pins s σ H D I h => ?_⟩
  rw [exec_Assign_arm]
  refine wpAny_bind (wpAny_standAt ?_)
  rw [hs]
  refine wpAny_bind (wpAny_pure ?_)
  rw [if_neg (by decide)]
  refine wpAny_bind (Tuple_ (thn (ha.run _ pins s σ H _ I h) fun us s1 hh => ?_))
  obtain ⟨vs, H1, I1, r1, v1, v2, rfl, q1⟩ := hh
  obtain ⟨u1, u2, rfl, ra, rb⟩ := vals2 r1
  refine wpAny_newObj_type ?_ (by show 2 ≤ sizeLine; decide)
  have I2 : Inv X pins σ H1 { s1 with heap := s1.heap.push { cls := .type "tuple", data := .seq [u1, u2].toArray }, toks := s1.toks } := I1.kept fun _ _ e => Heap.get?_push_of_some _ e
  rw [hw]
  refine wpAny_bind (wpAny_pure ?_)
  show wpAny (model X.prog X.w) X.A (do rule "assign.swapped-stores"; let got ← unpackItems (.ref s1.heap.objs.size) 2 none; assignInOrder [fun v => bindName X.env y v, fun v => bindName X.env x v] got.reverse; pure Flow.next) _ _ _
  refine wpAny_bind (wpAny_rule (wpAny_bind (unpackItems_tuple (items := #[u1, u2]) (I.ok.hd hc) (IsTup.new s1.heap _) fun h' hx' => ?_)))
  have I3 := I2.kept (h' := h') (t' := s1.toks) fun b o e => hx' b o (Nat.ne_of_lt (Heap.lt_size e)) e
  show wpAny _ _ (assignInOrder [fun v => bindName X.env y v, fun v => bindName X.env x v] [u2, u1] >>= fun _ => pure Flow.next) _ _ _
  refine wpAny_bind (assignInOrder_cons (wpAny_bindName (store_ok I3 hN hj (.inl hy) rb (fun s2 I4 => assignInOrder_cons (wpAny_bindName (store_ok I4 hN hi (.inl hx) ra (fun s3 I5 => assignInOrder_nil (wpAny_pure ?_)) (.inr hx)))) (.inr hy))))
  rw [List.set_comm _ _ (Ne.symm hij)] at I5
  exact ⟨_, H1, I5, q1⟩
theorem pds_par2 {tg e : Expr} {pos : Pos} {i j : Nat} {m1 m2 : MR} (t : PS X (.Assign [tg] e pos) (tPar2 i j (tDAR X.K C [m1, m2]))) : PS X (.Assign [tg] e pos) (tDS X.K C (mAsgM [i, j] [m1, m2])) := ps_imp t (by
  rintro D σ H ⟨F, sd, Dd, R, E, h⟩
  refine ⟨F, sd, _, R, h, fun vs H1 F1 rs sd1 R1 S1 A q => ?_⟩
  obtain ⟨ql, q⟩ := q
  have hl := A.len
  obtain ⟨r1, r2, rfl⟩ : ∃ r1 r2, rs = [r1, r2] := by
    match rs, ql with
    | [r1, r2], _ => exact ⟨r1, r2, rfl⟩
  obtain ⟨u, v, rfl⟩ : ∃ u v, vs = [u, v] := by
    match vs, hl with
    | [u, v], _ => exact ⟨u, v, rfl⟩
  exact ⟨u, v, rfl, E.nx F1 H1 _ _ S1.fr (rsA_sets (is := [i, j]) R1 A) q⟩)
theorem pds_par3 {tg e : Expr} {pos : Pos} {i j l : Nat} {m1 m2 m3 : MR} (t : PS X (.Assign [tg] e pos) (tPar3 i j l (tDAR X.K C [m1, m2, m3]))) : PS X (.Assign [tg] e pos) (tDS X.K C (mAsgM [i, j, l] [m1, m2, m3])) := ps_imp t (by
  rintro D σ H ⟨F, sd, Dd, R, E, h⟩
  refine ⟨F, sd, _, R, h, fun vs H1 F1 rs sd1 R1 S1 A q => ?_⟩
  obtain ⟨ql, q⟩ := q
  have hl := A.len
  obtain ⟨r1, r2, r3, rfl⟩ : ∃ r1 r2 r3, rs = [r1, r2, r3] := by
    match rs, ql with
    | [r1, r2, r3], _ => exact ⟨r1, r2, r3, rfl⟩
  obtain ⟨u, v, w, rfl⟩ : ∃ u v w, vs = [u, v, w] := by
    match vs, hl with
    | [u, v, w], _ => exact ⟨u, v, w, rfl⟩
  exact ⟨u, v, w, rfl, E.nx F1 H1 _ _ S1.fr (rsA_sets (is := [i, j, l]) R1 A) q⟩)
theorem pdt_chain {op op'} {r r' : R2} {f g : PyData → PyData → Option PyData} {a b c : Expr} {ma mb mc : ME} {pos : Pos} (L : RL2 X.K r f) (L' : RL2 X.K r' g)
    (t : PT X (.Compare a [op, op'] [b, c] pos) (tTest (tChain r r' (tD X.K C ma) (tD X.K C mb) (tD X.K C mc)))) : PT X (.Compare a [op, op'] [b, c] pos) (tDT X.K C (mT (mChain f g ma mb mc))) := pt_imp t (by
  refine td_test (te := tChain r r' (tD X.K C ma) (tD X.K C mb) (tD X.K C mc)) ?_
  rintro σ H Q ⟨F, sd, Qd, R, h, k⟩
  refine ⟨F, sd, _, R, h, fun x H1 F1 a sd1 R1 S1 rx h1 => ⟨F1, sd1, _, R1, h1, fun y H2 F2 b sd2 R2 S2 ry h2 => ?_⟩⟩
  obtain ⟨cc, e, q⟩ := h2
  refine L F2 H2 x y a b (.bool cc) _ R2.ext (fun p => R2.free) (rx.mono S2.fr) ry e fun v F' H' al rz => ?_
  cases rz
  refine ⟨cc, rfl, ?_⟩
  have S' := (S1.trans S2).trans (.al R2 al)
  cases cc with
  | true =>
    refine ⟨F', sd2, _, R2.al al, q, fun w H3 F3 d sd3 R3 S3 rw_ h3 => ?_⟩
    obtain ⟨z2, e2, q2⟩ := h3
    exact L' F3 H3 y w b d z2 _ R3.ext (fun p => R3.free) (ry.mono ((Stp.al R2 al).fr.trans S3.fr)) rw_ e2 fun v F4 H4 al2 rz2 => k v H4 F4 z2 sd3 (R3.al al2) ((S'.trans S3).trans (.al R3 al2)) rz2 q2
  | false => exact k (.bl false) H' F' _ sd2 (R2.al al) S' (.bl false) q)
theorem pd_lenScr {i : Nat} {x y : Str} {p p2 pos : Pos} (hm : X.mg "len" = none) (hN : X.N[i]? = some y) (hv : Vis X.env.scope y) (hd : (y == ("__debug__" : Str)) = false := by decide) (hcd : (y == ("__classdict__" : Str)) = false := by decide) (hg : Gl X "len" := by rfl)
    (he : starEach (.Name y p2 :: []) X.env = (false, eval (.Name y p2) X.env) :: starEach [] X.env := by rfl) (hpl : (backTo pos (starEach [] X.env)).any (·.1) = false := by rfl) :
    PE X (.Call (.Name "len" p) [.Name y p2] [] pos) (tD X.K C (mLenScr i)) := pe_imp (pe_callB call_len_seq hg hm (by decide +kernel) (pa_cons (pe_var hN hv hd hcd) pa_nil he) (by decide) (by decide) he hpl) (by
  rintro σ H Q ⟨F, sd, Qd, R, ⟨ns, hs, h⟩, k⟩
  have hi := R.slot i
  rw [hs] at hi
  obtain ⟨p, e1, e2⟩ := hi
  refine ⟨.ref p, gv_some.mp e1, p, _, rfl, .inl (R.ext.seq e2), ?_⟩
  rw [List.length_map]
  exact k _ H F _ sd R .refl (.int _) h)
theorem pd_lenOwn {i : Nat} {y : Str} {p p2 pos : Pos} (hm : X.mg "len" = none) (hN : X.N[i]? = some y) (hv : Vis X.env.scope y) (hd : (y == ("__debug__" : Str)) = false := by decide) (hcd : (y == ("__classdict__" : Str)) = false := by decide) (hg : Gl X "len" := by rfl)
    (he : starEach (.Name y p2 :: []) X.env = (false, eval (.Name y p2) X.env) :: starEach [] X.env := by rfl) (hpl : (backTo pos (starEach [] X.env)).any (·.1) = false := by rfl) :
    PE X (.Call (.Name "len" p) [.Name y p2] [] pos) (tD X.K C (mLenOwn i)) := pe_imp (pe_callB call_len_seq hg hm (by decide +kernel) (pa_cons (pe_var hN hv hd hcd) pa_nil he) (by decide) (by decide) he hpl) (by
  rintro σ H Q ⟨F, sd, Qd, R, ⟨ds, hs, h⟩, k⟩
  have hi := R.slot i
  rw [hs] at hi
  obtain ⟨p, vs, e1, e2, e3, e4, r⟩ := hi
  refine ⟨.ref p, gv_some.mp e1, p, _, rfl, .inl (.inl (.inl e2)), ?_⟩
  rw [r.length]
  exact k _ H F _ sd R .refl (.int _) h)
end
end DL
namespace DL
open PySem PySem.Spec PyProof.Rows L2
/-- what a law's def promises: handed a script, it returns True -/
def spL (K : PySem.W.Frag) : Sp := fun vs H Q _ => ∃ (a : Addr) (ns : List Int), vs = [.ref a] ∧ SqL K H a (ns.map V.int) ∧ ns.length ≤ 63 ∧ (∀ z ∈ ns, Builtin.Int.intBits z ≤ 1048576) ∧ ∀ H', Q (.bl true) H'
section
variable {P : Program} {w : World} {K : PySem.W.Frag} {mg : Str → Option Value} {base : Heap} {CN : String → Option Addr}
theorem fun_okL {x qual s0 : Str} {st : Stmt} {f : Addr} {fd : FuncData} {N : List Str} {k : Nat} {m : MS} (F : Fun K x qual st f fd) (SC : FnScope N [s0] (defScope st)) (hN : 1 ≤ N.length)
    (hbody : ∀ (cdv : Value) (A : Around) (outer : List Env) (s : Shared) (H : Hp) (E : XK) (C : Ct), C.isW = false → RoomG k (A.deeper (envOfC qual (defScope st) s.heap.objs.size f cdv)) →
      Takes (cxD P w K mg base N qual (defScope st) f cdv A outer s H E) (wD K C CN fun _ _ => False) → PSs (cxD P w K mg base N qual (defScope st) f cdv A outer s H E) (defBody st) (tDS K C m))
    (rd : ∀ ns : List Int, ns.length ≤ 63 → (∀ z ∈ ns, Builtin.Int.intBits z ≤ 1048576) → m endL (.scr ns :: List.replicate (N.length - 1) .no)) : FnG P w K mg base (k + 1) f fd [s0] (spL K) := by
  refine fun_okG F SC (fun vs H Q E h => ?_) (fun cdv A outer s H vs Q E hr h => ?_)
  · obtain ⟨a, ns, rfl, _⟩ := h; rfl
  · obtain ⟨a, ns, rfl, hS, hl, hb, hq⟩ := h
    have no : ∀ (k i : Nat), sget (List.replicate k S.no) i = .no := by
      intro k
      induction k with
      | zero => intro _; rfl
      | succ k ih => intro i; cases i with
        | zero => rfl
        | succ i => exact ih i
    have own : ∀ i, isOwn (sget (S.scr ns :: List.replicate (N.length - 1) S.no) i) = false := fun i => by
      cases i with
      | zero => rfl
      | succ i => show isOwn (sget (List.replicate (N.length - 1) S.no) i) = false; rw [no]; rfl
    have R0 : Rs K ⟨H, H, fun _ => False, false⟩ H H (L2.start N [.ref a]) (.scr ns :: List.replicate (N.length - 1) .no) := by
      refine ⟨?_, Same.refl _, Same.refl _, fun a o h => .inl h, fun a o h _ => h, fun a h => h, fun i => ?_, fun i j p _ o => ?_⟩
      · unfold L2.start; simp
      · cases i with
        | zero => exact ⟨a, rfl, hS⟩
        | succ i => show SlotOk K _ H H _ (sget (List.replicate (N.length - 1) S.no) i); rw [no]; trivial
      · rw [own] at o; cases o
    refine ⟨_, hbody cdv A outer s H E ⟨H, H, fun _ => False, false⟩ rfl hr (takes_cxD fun cls d σ H' hw => ?_), H, _, endL, R0, ⟨fun F1 H1 σ sd _ R q => q.elim, fun F1 H1 σ sd v r _ R rv _ q => ?_, fun _ _ _ _ _ _ z => z.elim, fun _ _ _ _ _ _ z => z.elim⟩, rd ns hl hb⟩
    · obtain ⟨c, a, F1, sd, hc, _, _, R, q⟩ := hw
      exact q.elim
    · have q : r = .va (.bool true) := q
      subst q
      obtain ⟨v', e1, q⟩ := rv
      cases e1
      cases q
      exact hq H1
/-- the promise at the heap behind the top -/
theorem end_call {mb : Str → Option Value} {k : Nat} {fa a : Addr} {fd : FuncData} {x : Str} {s₁ : Shared} {vs : List Value} {ns : List Int} (KX : K.In s₁.heap) (hns : s₁.heap.Ns mainGlobals mg) (hb : s₁.heap.Ns builtinsNs mb)
    (hbb : ∀ x : Str, x ≠ "__name__" → mb x = bootBuiltins x) (hlim : s₁.heap.NoLimit) (hg : s₁.gens = #[]) (ha : s₁.heap.get? a = some { cls := .type "list", data := .seq vs.toArray }) (hi : IntsAre vs ns) (h63 : ns.length ≤ 63) (hbits : ∀ z ∈ ns, Builtin.Int.intBits z ≤ 1048576)
    (hr : RoomG k callerA) (F : ∀ base : Heap, K.In base → base.Ns mainGlobals mg → FnG P w K mg base k fa fd [x] (spL K)) (hbind : ∀ (s : Shared) (u : Value), BindsTo s fd ⟨[u], []⟩ [(x, u)]) :
    codeAny (model P w) callerA (.call (.ref fa) ⟨[.ref a], []⟩) (fun r s' => r = .ok (.ret (.bool true)) ∧ OldK s₁.heap s'.heap ∧ s'.os = s₁.os ∧ AllBare s'.gens) s₁ := by
  have rv := vals_ints hi
  have hl : ns.length ≤ sizeLine := Nat.le_trans h63 (by decide)
  -- the script alone may be tracked, and only if the written part does not have it
  let o₀ : Obj := { cls := .type "list", data := .seq vs.toArray }
  let H : Hp := fun b => if b = a ∧ K.lookup a = none then some (.frz o₀ (.lst (ns.map V.int))) else none
  have hH : ∀ {b u}, H b = some u → b = a ∧ K.lookup a = none ∧ u = .frz o₀ (.lst (ns.map V.int)) := fun {b u} e => by
    by_cases c : b = a ∧ K.lookup a = none
    · have e2 := (if_pos c).symm.trans e
      exact ⟨c.1, c.2, (Option.some.inj e2).symm⟩
    · have e2 := (if_neg c).symm.trans e
      cases e2
  have hS : SqL K H a (ns.map V.int) := by
    cases q : K.lookup a with
    | none => exact .inl (.inr ⟨o₀, if_pos ⟨rfl, q⟩⟩)
    | some o =>
      have e := (KX a o q).symm.trans ha
      cases e
      exact .inr ⟨o₀, vs.toArray, 0, q, rfl, rfl, rfl, by rw [List.size_toArray, hi.length]; exact hl, by simpa using rv⟩
  have hok : HOk P w H s₁.heap := fun b u e => by
    obtain ⟨rfl, _, rfl⟩ := hH e
    exact ⟨ha, by rw [List.length_map]; exact hl, vs, _, rv, ha⟩
  -- the heap without it
  have hid : ∀ {b : Addr} {o : Obj}, s₁.heap.get? b = some o → (b = a → o ≠ o₀ ∨ K.lookup a ≠ none) → (hidT s₁.heap H).get? b = some o := fun {b o} e n => hidT_get e (by
    cases q : H b with
    | none => rfl
    | some u =>
      obtain ⟨e1, e2, _⟩ := hH q
      rcases n e1 with z | z
      · subst e1; rw [ha] at e; exact absurd (Option.some.inj e).symm z
      · exact absurd e2 z)
  have names : ∀ {b : Addr} {m : Str → Option Value}, s₁.heap.Ns b m → (hidT s₁.heap H).Ns b m := fun {b m} h => by
    obtain ⟨o, es, ep, e, d, r⟩ := h
    refine ⟨o, es, ep, hid e fun _ => .inl fun z => ?_, d, r⟩
    subst z
    cases d
  have kin : K.In (hidT s₁.heap H) := fun b o e => hid (KX b o e) fun z => .inr (by subst z; rw [e]; exact fun q => nomatch q)
  have lim : (hidT s₁.heap H).NoLimit := by
    obtain ⟨mc, h1, h2⟩ := hlim
    exact ⟨mc, names h1, h2⟩
  have e0 : Env0 P w K mg (hidT s₁.heap H) callerA [] s₁ H := ⟨rfl, ⟨kin, names hns, ⟨mb, names hb, hbb⟩, lim⟩, fun b o e => of_hidT e, Nat.le_of_eq (hidT_size _ _), trivial, (fun b hb => nomatch hb), hok, .of_eq hg⟩
  refine codeAny_mono ((F _ kin (names hns)).run (H := H) (us := [.ref a]) (vs := [.ref a]) (Q := fun v _ => v = .bl true) (E := fun _ _ _ => False) hr e0 (hbind s₁ (.ref a)) (.cons rfl .nil) ⟨a, ns, rfl, hS, h63, hbits, fun _ => rfl⟩) fun r s' h => ?_
  cases r with
  | error e =>
    obtain ⟨_, _, _, _, _, _, _, _, _, _, _, _, z⟩ := h
    exact z.elim
  | ok fl =>
    cases fl with
    | next => exact h.elim
    | brk => exact h.elim
    | cont => exact h.elim
    | ret u =>
      obtain ⟨v, H', os, bare, un, hok', r', q⟩ := h
      have q : v = .bl true := q
      subst q
      have r' : u = Value.bool true := r'
      subst r'
      refine ⟨rfl, OldK.of_keep fun b o e => ?_, os, bare⟩
      cases q : H b with
      | none => exact un.keep b o e q (fun z => nomatch z) (fun z => nomatch z)
      | some u =>
        obtain ⟨rfl, h2, rfl⟩ := hH q
        have e2 := (hok' b _ (un.frzs b _ _ q)).1
        rw [ha] at e
        cases e
        exact e2
end
/-- the goal that k_head leaves, from the promise of the law's def -/
theorem end_law {l : PySem.W.OpenLaw} {k : Nat} {q : Program} {loose : List Str} {XP : (Str → Option Value) → Heap → Prop} {YP : World → Heap → Prop} {d : DefRec} {K : Params → PySem.W.Frag} {x : Str}
    (hn : l.most = some 63) (hdf : d.params.defaults = []) (hr : RoomG k callerA) (hY : ∀ (w : World) (h : Heap), YP w h → (K w.params).In h)
    (F : ∀ (w : World) (mg : Str → Option Value) (fa : Addr) (h : Heap), (K w.params).In h → h.Ns mainGlobals mg → mg d.name = some (.ref fa) →
      ∃ fd : FuncData, (∀ (s : Shared) (u : Value), BindsTo s fd ⟨[u], []⟩ [(x, u)]) ∧ ∀ base : Heap, (K w.params).In base → base.Ns mainGlobals mg → FnG l.prog w (K w.params) mg base k fa fd [x] (spL (K w.params))) :
    PySem.W.WalkO q loose XP YP l.row.toRowW d [] (fun f vs => PySem.call f vs) := by
  refine Att.attach_callB hn hdf fun w s₀ s₁ mg mb fa o pm cd doc a vs ns G Y ho hd hcd hmg hobj hints hlen hbits hg => ?_
  obtain ⟨fd, hb, hF⟩ := F w mg fa _ (hY w _ Y) G.T.g hmg
  exact end_call (hY w _ Y) G.T.g G.T.b G.T.builtins G.T.nolimit hg hobj hints hlen hbits hr hF hb
end DL
namespace DL
open PySem PySem.Spec PyProof.Rows L2
theorem RoomG.u64 {k : Nat} {A : Around} (h : RoomG k A) : A.units + 64 < cLine := by have := h.r.un; omega
section
variable {X : Cx} {C : Ct}
theorem dv (i : Nat) {x : Str} {pos : Pos} (hN : X.N[i]? = some x := by rfl) (hv : Vis X.env.scope x := by first | exact Or.inl rfl | exact Or.inr (Or.inl rfl) | exact Or.inr (Or.inr rfl)) (hd : (x == ("__debug__" : Str)) = false := by decide)
    (hcd : (x == ("__classdict__" : Str)) = false := by decide) : PE X (.Name x pos) (tD X.K C (mVar i)) := pd_var hN hv hd hcd
/-- a raise that cannot be -/
theorem takesF {K : PySem.W.Frag} {CN : String → Option Addr} : Takes X (wD K C CN wF) := takes0.imp fun cls d σ H h => by
  obtain ⟨_, _, _, _, _, _, _, _, q⟩ := h
  exact q.elim
theorem dg (i : Nat) {x : Str} {pos : Pos} (hN : X.N.Nodup) (hi : X.N[i]? = some x := by rfl) (hx : Loc X.env.scope x := by first | exact Or.inl rfl | exact Or.inr rfl) (hf : X.fn x = true ∨ X.env.scope.names.lookup x = some .local := by first | exact .inl rfl | exact .inr rfl) :
    PG X (.Name x pos) (tDG X.K C (mgName i)) := pdg_name hN hi hx hf
theorem gcons {e : Expr} {es : List Expr} {g : MG} {gs : MGs} (h1 : PG X e (tDG X.K C g)) (h2 : PGs X es (tDGs X.K C gs)) (hs : (assignEach (e :: es) X.env).map (·.2) = assign e X.env :: (assignEach es X.env).map (·.2) := by rfl) : PGs X (e :: es) (tDGs X.K C (mgCons g gs)) := pdgs_cons h1 h2 (pgs_cons h1 h2 hs)
theorem gvcons {vs : List Nat} {e : Expr} {es : List Expr} {g : MG} {gs : MGs} (h1 : PG X e (tDGv X.K C vs g)) (h2 : PGs X es (tDGsv X.K C vs gs)) (hs : (assignEach (e :: es) X.env).map (·.2) = assign e X.env :: (assignEach es X.env).map (·.2) := by rfl) : PGs X (e :: es) (tDGsv X.K C vs (mgCons g gs)) := pdgsv_cons (pgs_cons h1 h2 hs)
theorem dgv (i : Nat) {vs : List Nat} {x : Str} {pos : Pos} (hN : X.N.Nodup) (hv : i ∈ vs := by decide) (hi : X.N[i]? = some x := by rfl) (hx : Loc X.env.scope x := by first | exact Or.inl rfl | exact Or.inr rfl) (hf : X.fn x = true ∨ X.env.scope.names.lookup x = some .local := by first | exact .inl rfl | exact .inr rfl) :
    PG X (.Name x pos) (tDGv X.K C vs (mgName i)) := pdgv_name hv (pg_name hN hi hx hf)
theorem d_range1 {tg a : Expr} {p pos : Pos} {m : MA} (hm : X.mg "range" = none) (h : PA X [a] (tDA X.K C m)) (hg : Gl X "range" := by rfl) (hs : starEach [a] X.env = [(false, eval a X.env)] := by rfl) : PI X tg (.Call (.Name "range" p) [a] [] pos) (tDI X.K C (miRng1 m)) :=
  pdi_range1 hm h hg (pi_range1 hg hm h hs)
theorem d_range2 {tg a b : Expr} {p pos : Pos} {m : MA} (hm : X.mg "range" = none) (h : PA X [a, b] (tDA X.K C m)) (hg : Gl X "range" := by rfl) (hs : starEach [a, b] X.env = [(false, eval a X.env), (false, eval b X.env)] := by rfl) (hs2 : starEach [b] X.env = [(false, eval b X.env)] := by rfl) : PI X tg (.Call (.Name "range" p) [a, b] [] pos) (tDI X.K C (miRng2 m)) :=
  pdi_range2 hm h hg (pi_range2 hg hm h hs hs2)
end
end DL
namespace DL
open PySem PySem.Spec PyProof.Rows L2 HT
theorem rev_places (n : Nat) : Builtin.Slice.slicePlaces ((n : Int) - 1) (-1) (-1) = n := by
  unfold Builtin.Slice.slicePlaces
  have h1 : ¬ ((-1 : Int) > 0) := by omega
  rw [if_neg h1]
  by_cases h : (n : Int) - 1 > -1
  · rw [if_pos h, show (-(-1) : Int) = 1 from rfl, Int.ediv_one]; omega
  · rw [if_neg h]; omega
theorem fm_congr {α β : Type} {f g : α → Option β} : ∀ {l : List α}, (∀ x ∈ l, f x = g x) → l.filterMap f = l.filterMap g
  | [], _ => rfl
  | x :: l, h => by
    rw [List.filterMap_cons, List.filterMap_cons, h x (by simp), fm_congr (l := l) fun y hy => h y (by simp [hy])]
theorem rev_pick (xs : Array Value) : ((List.range xs.size).filterMap fun (m : Nat) => xs[(((xs.size : Int) - 1) + (m : Int) * (-1)).toNat]?).toArray = xs.toList.reverse.toArray := by
  have e : ((List.range xs.size).filterMap fun (m : Nat) => xs[(((xs.size : Int) - 1) + (m : Int) * (-1)).toNat]?) = ((List.range xs.size).map fun k => xs.size - 1 - k).filterMap (xs[·]?) := by
    rw [List.filterMap_map]
    refine fm_congr fun m hm => ?_
    have : (((xs.size : Int) - 1) + (m : Int) * (-1)).toNat = xs.size - 1 - m := by
      have := List.mem_range.mp hm
      omega
    rw [this]
    rfl
  rw [e, PySem.W.krv_range, List.filterMap_reverse, PySem.W.krv_all]
section
variable {prog : Program} {w : World} {A : Around} {E : Value → Shared → Prop} {s : Shared}
theorem rev_applied {sl : Addr} {vs : Value} {n : Nat} {Q : Int × Int × Nat → Shared → Prop} (hs : s.heap.IsSliceOf sl .none .none vs) (ps : IsPart vs (some (-1))) (h : Q ((n : Int) - 1, -1, n) s) :
    wpAny (model prog w) A (Builtin.Slice.sliceApplied (.ref sl) (pure (n : Int))) Q E s := by
  obtain ⟨oo, ho, hcc, hdd⟩ := id hs
  unfold Builtin.Slice.sliceApplied
  unfold Builtin.Slice.sliceFields
  refine wpAny_bind (wpAny_bind (wpAny_field ho hdd (x := .none) rfl (wpAny_bind (wpAny_field ho hdd (x := .none) rfl (wpAny_bind (wpAny_field ho hdd (x := vs) rfl (wpAny_pure ?_)))))))
  refine wpAny_bind (slicePart_ ps ?_)
  show wpAny _ _ (if ((-1 : Int) == 0) = true then _ else _) _ _ s
  rw [if_neg (by decide)]
  refine wpAny_bind (slicePart_none (wpAny_bind (slicePart_none (wpAny_bind (wpAny_pure ?_)))))
  show wpAny _ _ (pure ((n : Int) - 1, (-1 : Int), Builtin.Slice.slicePlaces ((n : Int) - 1) (-1) (-1))) _ _ s
  rw [rev_places]
  exact wpAny_pure h
theorem rev_item {t sl : Addr} {items : Array Value} {vs : Value} {Q : Value → Shared → Prop} (ht : IsTup s.heap t items) (hs : s.heap.IsSliceOf sl .none .none vs) (ps : IsPart vs (some (-1)))
    (h : Q (.ref s.heap.objs.size) { s with heap := s.heap.push { cls := .type "tuple", data := .seq items.toList.reverse.toArray } }) (hsz : items.size ≤ sizeLine) : wpAny (model prog w) A (getItem (.ref t) (.ref sl)) Q E s := by
  have fits : sizeOk (.seq items.toList.reverse.toArray) := by
    show items.toList.reverse.toArray.size ≤ sizeLine
    rw [List.size_toArray, List.length_reverse, Array.length_toList]
    exact hsz
  have isS : s.TypeIs (.ref sl) "slice" := hs.elim fun o q => ⟨o, q.1, q.2.1⟩
  unfold getItem
  try with_reducible refine wpAny_holding ?_
  first | refine wpAny_bind (wpAny_pure ?_) | skip
  refine wpAny_bind (wpAny_sequenceKey ht.typeIs (by decide) (wpAny_bind (wpAny_callSpecial?_slot (name := Str.ofString "__getitem__") ht.typeIs PyProof.Rows.slot_tuple_getitem (wpAny_call_entry PyProof.Rows.slot_tuple_getitem ht.typeIs entry_tuple_getitem ?_ (args_tuple_getitem _ _)))))
  show wpAny _ _ (Builtin.Tuple.tupleItemsOf (.ref t) >>= _) _ _ s
  refine wpAny_bind (tupleItemsOf_ ht (wpAny_bind (wpAny_typeOf isS ?_)))
  rw [if_pos (by decide)]
  refine wpAny_bind (rev_applied hs ps ?_)
  have other : ¬ (((items.size : Int) - 1 == 0 && (-1 : Int) == 1 && items.size == items.size) = true) := by
    intro q
    rw [Bool.and_eq_true, Bool.and_eq_true] at q
    exact absurd q.1.2 (by decide)
  show wpAny _ _ (if ((items.size : Int) - 1 == 0 && (-1 : Int) == 1 && items.size == items.size) = true then _ else _) _ _ s
  rw [if_neg other, rev_pick]
  first
    | exact wpAny_bind (m := Builtin.Tuple.tupleExact _) (wpAny_newObj_type (wpAny_pure ⟨_, rfl, wpAny_pure h⟩) fits)
    | exact wpAny_bind (m := Builtin.Tuple.tupleExact _) (wpAny_newObj_type (wpAny_bind (wpAny_pure (wpAny_pure ⟨_, rfl, wpAny_pure h⟩))) fits)
    | exact wpAny_bind (wpAny_bind (m := Builtin.Tuple.tupleExact _) (wpAny_newObj_type (wpAny_pure (wpAny_pure ⟨_, rfl, wpAny_pure h⟩)) fits))
    | exact wpAny_bind (wpAny_bind (m := Builtin.Tuple.tupleExact _) (wpAny_newObj_type (wpAny_pure ⟨_, rfl, wpAny_pure h⟩) fits))
end
section
variable {X : Cx} {C : Ct}
def tRev2 (K : PySem.W.Frag) (te : TE) : TE := fun σ H Q => te σ H fun x H1 => ∃ a xs, x = .ref a ∧ ((SqL K H1 a xs ∧ ∀ p, H1 p = none → Q (.ref p) (upd H1 p (.lst xs.reverse))) ∨ (SqT K H1 a xs ∧ ∀ p, H1 p = none → Q (.ref p) (upd H1 p (.tup xs.reverse))))
theorem pe_rev2 {e : Expr} {te : TE} {k : Nat} {p1 p2 p3 pos : Pos} (he : PE X e te) : PE X (.Subscript e (.Slice none none (some (.UnaryOp .USub (.Constant (.int 1) k p1) p2)) p3) pos) (tRev2 X.K te) := by
  refine ⟨fun pins s σ H Q I h => Subscript_ (thn (he.run pins s σ H _ I h) fun v s1 hh => ?_)⟩
  obtain ⟨x, H1, I1, r1, a, xs, ex, q⟩ := hh
  subst ex
  cases r1
  have one : PO X (some (.UnaryOp .USub (.Constant (.int 1) k p1) p2)) (tPart (tUn (rU fun i => .int (-i)) (tC (.int 1)))) := po_some (pe_un un_neg pe_int)
  refine wpAny_Slice (thn (po_none.run pins s1 σ H1 (fun o H2 => o = none ∧ H2 = H1) I1 ⟨rfl, rfl⟩) fun vl s2 z => ?_)
  obtain ⟨_, _, I2, pl, rfl, rfl⟩ := z
  refine thn (po_none.run pins s2 σ _ (fun o H3 => o = none ∧ H3 = _) I2 ⟨rfl, rfl⟩) fun vu s3 z => ?_
  obtain ⟨_, _, I3, pu, rfl, rfl⟩ := z
  refine thn (one.run pins s3 σ _ (fun o H4 => o = some (-1) ∧ H4 = _) I3 ⟨1, rfl, -1, rfl, rfl, rfl⟩) fun vs s4 z => ?_
  obtain ⟨_, H4, I4, ps, rfl, rfl⟩ := z
  have I5 : Inv X pins σ _ { s4 with heap := s4.heap.push { cls := .type "slice", data := .fields #[vl, vu, vs] } } := I4.kept (t' := s4.toks) fun b ob q => Heap.get?_push_of_some _ q
  cases pl
  cases pu
  show wpAny (model X.prog X.w) X.A (subscriptTail e _ (.ref a) (.ref s4.heap.objs.size)) (EP X pins σ Q) X.xe { s4 with heap := s4.heap.push { cls := .type "slice", data := .fields #[.none, .none, vs] } }
  rcases q with ⟨hx, q⟩ | ⟨hx, q⟩
  · obtain ⟨its, r, ht, hz⟩ := I5.list hx
    have hlen := r.length
    refine tail_any (ops := [.ref a, .ref s4.heap.objs.size]) ht.isList.typeIs (PySem.slot_list_getitem.lookup) ?_ (by with_unfolding_all rfl)
    refine wpAny_getItem_list_slice ht.isList (Heap.IsSliceOf.new _ _ _ vs) .none .none ps (by decide) ?_ (by rw [List.size_toArray]; omega)
    rw [PySem.W.krv_pick]
    exact ⟨.ref _, _, I5.laid (t' := s4.toks) (o := .lst xs.reverse) (fun b ob q => Heap.get?_push_of_some _ q) (Nat.le_refl _) ⟨by rw [List.length_reverse]; exact hz, _, 0, r.reverse, Heap.get?_push_size _ rfl⟩, rfl, q _ (I5.hok.fresh (Nat.le_refl _))⟩
  · obtain ⟨its, r, ht, hz⟩ := I5.tuple hx
    have hlen := r.length
    refine tail_any (ops := [.ref a, .ref s4.heap.objs.size]) ht.typeIs (PyProof.Rows.slot_tuple_getitem.lookup) ?_ (by with_unfolding_all rfl)
    refine rev_item ht (Heap.IsSliceOf.new _ _ _ vs) ps ?_ (by rw [List.size_toArray]; omega)
    exact ⟨.ref _, _, I5.laid (t' := s4.toks) (o := .tup xs.reverse) (fun b ob q => Heap.get?_push_of_some _ q) (Nat.le_refl _) ⟨by rw [List.length_reverse]; exact hz, _, r.reverse, IsTup.new _ _⟩, rfl, q _ (I5.hok.fresh (Nat.le_refl _))⟩
theorem rpA_reverse {K : PySem.W.Frag} {F : Hp} {vs : List V} {ds : List PyData} (r : RpA K F vs ds) : RpA K F vs.reverse ds.reverse := by
  have app : ∀ {vs : List V} {ds : List PyData} {ws : List V} {es : List PyData}, RpA K F vs ds → RpA K F ws es → RpA K F (vs.reverse ++ ws) (ds.reverse ++ es) := by
    intro vs
    induction vs with
    | nil => intro ds ws es r q; cases r; exact q
    | cons v vs ih =>
      intro ds ws es r q
      cases r with
      | cons h r =>
        rw [List.reverse_cons, List.reverse_cons, List.append_assoc, List.append_assoc]
        exact ih r (.cons h q)
  have := app r (RpA.nil (K := K) (F := F))
  simpa using this
theorem pd_rev {e : Expr} {me : ME} {k : Nat} {p1 p2 p3 pos : Pos} (he : PE X e (tD X.K C me)) : PE X (.Subscript e (.Slice none none (some (.UnaryOp .USub (.Constant (.int 1) k p1) p2)) p3) pos) (tD X.K C (mOp1 opRev me)) := pe_imp (pe_rev2 he) (by
  rintro σ H Q ⟨F, sd, Qd, R, h, k⟩
  refine ⟨F, sd, _, R, h, fun x H1 F1 a sd1 R1 S1 rx h1 => ?_⟩
  obtain ⟨z, e, q⟩ := h1
  cases rx with
  | lst h2 r2 =>
    cases e
    refine ⟨_, _, rfl, .inl ⟨.inl (.inl (R1.ext _ _ h2)), fun p hp => ?_⟩⟩
    exact k (.ref p) _ _ _ sd1 (R1.al (.new hp)) (S1.trans (.al R1 (.new hp))) (.lst upd_same (rpA_reverse (r2.mono (same_new (free_of R1.ext hp))))) q
  | tup h2 r2 =>
    cases e
    refine ⟨_, _, rfl, .inr ⟨same_t R1.ext h2, fun p hp => ?_⟩⟩
    exact k (.ref p) _ _ _ sd1 (R1.al (.new hp)) (S1.trans (.al R1 (.new hp))) (.tup (.inl (.inl upd_same)) (rpA_reverse (r2.mono (same_new (free_of R1.ext hp))))) q
  | _ => cases e)
end
end DL
namespace DL
open PySem PySem.Spec PyProof.Rows L2
section
variable {P : Program} {w : World} {K : PySem.W.Frag} {mg : Str → Option Value} {base : Heap} {CN : String → Option Addr}
theorem psw {N : List Str} {qual : Str} {sc : Scope} {f : Addr} {cdv : Value} {A : Around} {outer : List Env} {s : Shared} {H : Hp} {E : XK} :
    PassesOwn (model (cxD P w K mg base N qual sc f cdv A outer s H E).prog (cxD P w K mg base N qual sc f cdv A outer s H E).w) (cxD P w K mg base N qual sc f cdv A outer s H E).A (cxD P w K mg base N qual sc f cdv A outer s H E).env (cxD P w K mg base N qual sc f cdv A outer s H E).xe := passes_of (X := cxD P w K mg base N qual sc f cdv A outer s H E) rfl
inductive Sel where | p (i : Nat) | k (i : Nat)
def pick {α : Type} (us ws : List α) : List Sel → List α
  | [] => []
  | .p i :: r => us[i]?.toList ++ pick us ws r
  | .k i :: r => ws[i]?.toList ++ pick us ws r
/-- a places, b keywords, in this order -/
def gSel (a b : Nat) (ss : List Sel) {α : Type} (us ws : List α) : List α := if us.length = a ∧ ws.length = b then pick us ws ss else []
theorem paired_app {α β : Type} {R : α → β → Prop} : ∀ {as : List α} {bs : List β} {cs : List α} {ds : List β}, Paired R as bs → Paired R cs ds → Paired R (as ++ cs) (bs ++ ds)
  | _, _, _, _, .nil, q => q
  | _, _, _, _, .cons h r, q => .cons h (paired_app r q)
theorem paired_at {α β : Type} {R : α → β → Prop} : ∀ {as : List α} {bs : List β} (i : Nat), Paired R as bs → Paired R as[i]?.toList bs[i]?.toList
  | _, _, _, .nil => .nil
  | _, _, 0, .cons h _ => .cons h .nil
  | _ :: _, _ :: _, i + 1, .cons _ r => by simpa using paired_at i r
theorem paired_len {α β : Type} {R : α → β → Prop} : ∀ {as : List α} {bs : List β}, Paired R as bs → as.length = bs.length
  | _, _, .nil => rfl
  | _, _, .cons _ r => by simp [paired_len r]
theorem ord_sel (a b : Nat) (ss : List Sel) : Ord (fun {α} => gSel a b ss (α := α)) where
  rel := fun {α β} R {as cs bs ds} h1 h2 => by
    unfold gSel
    rw [paired_len h1, paired_len h2]
    split
    · induction ss with
      | nil => exact .nil
      | cons s ss ih =>
        cases s with
        | p i => exact paired_app (paired_at i h1) ih
        | k i => exact paired_app (paired_at i h2) ih
    · exact .nil
theorem kbinds_of {fd : FuncData} {ps ks : List Str} {a b : Nat} {ss : List Sel} (hp : ps ≠ []) (h : ∀ (s : Shared) (us ws : List Value), us.length = a → ws.length = b → BindsTo s fd ⟨us, ks.zip ws⟩ (ps.zip (pick us ws ss))) : KBinds K fd ps ks (gSel a b ss) (gSel a b ss) where
  to := fun s us ws _ hl => by
    unfold gSel at hl ⊢
    by_cases c : us.length = a ∧ ws.length = b
    · rw [if_pos c]; exact h s us ws c.1 c.2
    · rw [if_neg c] at hl
      exact absurd (List.eq_nil_of_length_eq_zero hl.symm) hp
  rel := fun {vs us zs ws} h1 h2 => (ord_sel a b ss).rel RelV h1 h2
def dDraw : WSpec := fun n ds Q => ∃ m : Int, ds = [.int m] ∧ 1 ≤ n ∧ 1 ≤ m ∧ m.natAbs.log2 < 9000 ∧ ∀ r : Int, 0 ≤ r → r < m → Q (.va (.int r)) (n - 1)
def spWell (K : PySem.W.Frag) : Sp := fun vs H Q _ => ∃ (a : Addr) (ns : List Int) (k : Int), vs = [.ref a, .int k] ∧ SqL K H a (ns.map V.int) ∧ ns.length ≤ 63 ∧ (∀ z ∈ ns, Builtin.Int.intBits z ≤ 1048576) ∧ 0 ≤ k ∧ k < 2 ^ 20 ∧
  ∀ H' p x y z, Same H H' → H p = none → H' p = some (.lst [.int x, .int y, .int z]) → WellOk (2 ^ 60) x y z → Q (.ref p) H'
structure CalL (P : Program) (w : World) (K : PySem.W.Frag) (mg : Str → Option Value) (base : Heap) (k : Nat) (x : Str) : Prop where
  ex : ∃ f fd ps, FnG P w K mg base k f fd ps (spWell K) ∧ mg x = some (.ref f) ∧ PySem.W.keepIn K (.ref f) = true ∧ Binds K fd ps []
end
/-- the well from the script in slot i -/
def mWell (i : Nat) (me : ME) : MR := fun sd Q => (∃ ns, sget sd i = .scr ns) ∧ me sd fun d s1 => ∃ ns k, sget s1 i = .scr ns ∧ ns.length ≤ 63 ∧ (∀ z ∈ ns, Builtin.Int.intBits z ≤ 1048576) ∧ d = .int k ∧ 0 ≤ k ∧ k < 2 ^ 20 ∧ Q (.well (2 ^ 60)) s1
section
variable {K : PySem.W.Frag} {X : Cx} {C : Ct}
theorem td_well {i : Nat} {me : ME} {E : L2.St → XK} (hw : C.isW = false) : ∀ σ H Q, tDR K C (mWell i me) σ H Q → tCallG (spWell K) E (tCons (tVar i) (tCons (tD K C me) tNil)) σ H Q := by
  rintro σ H Q ⟨F, sd, Qd, R, ⟨⟨n0, hn0⟩, h⟩, k⟩
  have hi := R.slot i
  rw [hn0] at hi
  obtain ⟨p, e1, _⟩ := hi
  refine ⟨.ref p, gv_some.mp e1, F, sd, _, R, h, fun v H1 F1 d sd1 R1 S1 rv h1 => ?_⟩
  obtain ⟨ns, kk, hs, hl, hb, rfl, k0, k1, q⟩ := h1
  have hi1 := R1.slot i
  rw [hs] at hi1
  obtain ⟨p', z1, z2⟩ := hi1
  rw [e1] at z1; cases z1
  cases rv
  refine ⟨p, ns, kk, rfl, R1.ext.seq z2, hl, hb, k0, k1, fun H' p2 x y z sm hp hn ok => ?_⟩
  have S2 : Stp σ sd1 F1 H1 F1 H' sd1 := ⟨Same.refl _, fun a o e _ => sm a o e, fun _ z => z, fun a o e => .inl e, fun a e => by
    cases q : H1 a with
    | none => rfl
    | some o => rw [sm a o q] at e; cases e⟩
  have hF : F1 p2 = none := R1.free hp
  have R2 : Rs K C F1 H' σ sd1 := by
    refine ⟨R1.len, R1.grow, fun a o e => sm a o (R1.ext a o e), R1.new, fun a o e n => sm a o (R1.keep a o e n), fun a e => R1.still a (S2.st a e), fun j => (R1.slot j).grow (Same.refl _) fun q x o e eh en => ⟨sm q x eh, en⟩, R1.sep⟩
  refine k _ H' F1 (.well (2 ^ 60)) sd1 R2 (S1.trans S2) ⟨p2, x, y, z, rfl, hn, hF, .inr ⟨hw, R1.still p2 hp⟩, ok⟩ (fun _ q e => by cases e; exact (R1.fresh hp).1) (fun _ q e => by cases e; exact S1.st p2 hp) q
theorem pdr_well {i : Nat} {me : ME} {x y : Str} {e2 : Expr} {p p2 pos : Pos} {k j : Nat} {W : WX} (hw : C.isW = false) (c : CalL X.prog X.w X.K X.mg X.base k x) (hr : RoomG j X.A) (hk : k ≤ j) (tk : Takes X W) (hy : PE X (.Name y p2) (tVar i)) (he2 : PE X e2 (tD X.K C me)) (hg : Gl X x := by rfl)
    (hdb : (x == ("__debug__" : Str)) = false := by decide) (he : starEach (.Name y p2 :: [e2]) X.env = (false, eval (.Name y p2) X.env) :: starEach [e2] X.env := by rfl) (he1 : starEach (e2 :: []) X.env = (false, eval e2 X.env) :: starEach [] X.env := by rfl) (hpl : (backTo pos (starEach [e2] X.env)).any (·.1) = false := by rfl) :
    PE X (.Call (.Name x p) [.Name y p2, e2] [] pos) (tDR X.K C (mWell i me)) := by
  obtain ⟨f, fd, ps, F, hm, hkp, hb⟩ := c.ex
  exact pe_imp (pe_callG F (hr.mono hk) hg hm hkp hb (passAt tk) (pa_cons hy (pa_cons he2 pa_nil he1) he) hdb he hpl) (td_well hw)
end
end DL
namespace DL
open PySem PySem.Spec PyProof.Rows L2
/-- a + b of lists, a new list that nobody else holds -/
def mrCat (ma mb : ME) : MR := fun sd Q => ma sd fun a s1 => mb s1 fun b s2 => ∃ xs ys, a = .list xs ∧ b = .list ys ∧ xs.length + ys.length ≤ 100000 ∧ Q (.own (xs ++ ys)) s2
section
variable {K : PySem.W.Frag} {X : Cx} {C : Ct}
theorem pdt_ofw {e : Expr} {t : MT} (h : PW X e (tDT X.K C t)) : PT X e (tDT X.K C t) := h.pt
theorem cmpI_bl {p : Int → Int → Bool} {a b z : PyData} (h : cmpI p a b = some z) : ∃ k, z = .bool k := by
  unfold cmpI at h
  split at h
  · cases h; exact ⟨_, rfl⟩
  · cases h
theorem eq_bl {a b z : PyData} (h : opEq a b = some z) : ∃ k, z = .bool k := by
  unfold opEq at h
  split at h
  · cases h; exact ⟨_, rfl⟩
  · obtain ⟨p, _, h⟩ := Option.map_eq_some_iff.mp h
    exact ⟨_, h.symm⟩
theorem ne_bl {a b z : PyData} (h : opNe a b = some z) : ∃ k, z = .bool k := by
  unfold opNe at h
  split at h
  · cases h; exact ⟨_, rfl⟩
  · obtain ⟨p, _, h⟩ := Option.map_eq_some_iff.mp h
    exact ⟨_, h.symm⟩
theorem pd_chain2 {op op'} {r r' : R2} {f g : PyData → PyData → Option PyData} {a b c : Expr} {ma mb mc : ME} {pos : Pos} (ho : OpR X (compareOp op) r) (ho' : OpR X (compareOp op') r') (L : RL2 X.K r f) (L' : RL2 X.K r' g)
    (ha : PE X a (tD X.K C ma)) (hb : PE X b (tD X.K C mb)) (hc : PE X c (tD X.K C mc)) (hu : ∀ {a b : PyData} {z : PyData}, f a b = some z → ∃ k, z = .bool k := by first | exact cmpI_bl | exact eq_bl | exact ne_bl)
    (hm : lastMarks [op, op'] [b, c] = false := by with_unfolding_all rfl) : PE X (.Compare a [op, op'] [b, c] pos) (tD X.K C (mChain f g ma mb mc)) := pd_chain ho ho' L L' ha hb hc hu (pe_chain ho ho' ha hb hc hm)
theorem pdt_chain2 {op op'} {r r' : R2} {f g : PyData → PyData → Option PyData} {a b c : Expr} {ma mb mc : ME} {pos : Pos} (ho : OpR X (compareOp op) r) (ho' : OpR X (compareOp op') r') (L : RL2 X.K r f) (L' : RL2 X.K r' g)
    (ha : PE X a (tD X.K C ma)) (hb : PE X b (tD X.K C mb)) (hc : PE X c (tD X.K C mc)) (hm : lastMarks [op, op'] [b, c] = false := by with_unfolding_all rfl) : PT X (.Compare a [op, op'] [b, c] pos) (tDT X.K C (mT (mChain f g ma mb mc))) := pdt_chain L L' (pt_chain ho ho' ha hb hc hm)
theorem pdr_cat {a b : Expr} {ma mb : ME} {pos : Pos} (ha : PE X a (tD X.K C ma)) (hb : PE X b (tD X.K C mb)) : PE X (.BinOp a .Add b pos) (tDR X.K C (mrCat ma mb)) := pe_imp (pe_op op_cat ha hb) (by
  rintro σ H Q ⟨F, sd, Qd, R, h, k⟩
  refine ⟨F, sd, _, R, h, fun x H1 F1 d sd1 R1 S1 rx h1 => ⟨F1, sd1, _, R1, h1, fun y H2 F2 e sd2 R2 S2 ry h2 => ?_⟩⟩
  obtain ⟨xs, ys, rfl, rfl, hl, q⟩ := h2
  cases rx with
  | lst a1 r1 =>
    cases ry with
    | lst a2 r2 =>
      refine ⟨_, _, _, _, rfl, rfl, R2.ext _ _ (S2.fr _ _ a1), R2.ext _ _ a2, ?_, fun p hp => ?_⟩
      · rw [r1.length, r2.length]; exact line_of hl
      · have S := S1.trans S2
        refine k (.ref p) _ F2 (.own (xs ++ ys)) sd2 (R2.allocH hp) (S.trans ⟨Same.refl _, fun a o e _ => same_new hp a o e, fun _ z => z, fun _ _ e => .inl e, fun a e => ?_⟩) ⟨p, _, rfl, upd_same, R2.free hp, R2.still p hp, (r1.mono S2.fr).append r2⟩ (fun _ q' e => ?_) (fun _ q' e => ?_) q
        · by_cases z : a = p
          · subst z; exact hp
          · rw [upd_ne z] at e; exact e
        · cases e; exact (R2.fresh hp).1
        · cases e; exact S.st p hp)
end
end DL
namespace DL
open PySem PySem.Spec PyProof.Rows L2
def bTup : List PyData → Option PyData
  | [.list xs] => some (.tuple xs)
  | [.tuple xs] => some (.tuple xs)
  | _ => none
section
variable {K : PySem.W.Frag} {X : Cx} {C : Ct}
theorem pd_tupOf {p pos : Pos} {a : Expr} {m : ME} (hm : X.mg "tuple" = none) (ha : PE X a (tD X.K C m)) (hg : Gl X "tuple" := by rfl) (na : starEach [a] X.env = (false, eval a X.env) :: starEach [] X.env := by rfl) :
    PE X (.Call (.Name "tuple" p) [a] [] pos) (tD X.K C (mCallB bTup (mCons m mNil))) := pe_imp (pe_tupleOf hg hm ha na) (by
  rintro σ H Q ⟨F, sd, Qd, R, h, k⟩
  refine ⟨F, sd, _, R, h, fun x H1 F1 d sd1 R1 S1 rx h1 => ?_⟩
  obtain ⟨r, e, q⟩ := h1
  cases rx with
  | lst h2 r2 =>
    cases e
    refine .inl ⟨_, _, rfl, .inl (.inl (R1.ext _ _ h2)), fun p hp => ?_⟩
    exact k (.ref p) _ _ _ sd1 (R1.al (.new hp)) (S1.trans (.al R1 (.new hp))) (.tup (.inl (.inl upd_same)) (r2.mono (same_new (free_of R1.ext hp)))) q
  | tup h2 r2 =>
    cases e
    exact .inr ⟨_, _, rfl, same_t R1.ext h2, k _ H1 F1 _ sd1 R1 S1 (.tup h2 r2) q⟩
  | _ => cases e)
end
section
variable {P : Program} {w : World} {K : PySem.W.Frag} {mg : Str → Option Value} {base : Heap} {CN : String → Option Addr}
/-- a promise that is never asked for -/
theorem fn_never {k : Nat} {f : Addr} {fd : FuncData} {ps : List Str} {spec : PSpec} (h : ∀ ds Q E, ¬ spec ds Q E) : FnG P w K mg base k f fd ps (spP K CN spec) where
  len := fun vs H Q E z => by
    obtain ⟨_, _, _, _, _, _, z, _⟩ := z
    exact (h _ _ _ z).elim
  run := fun _ _ _ _ z => by
    obtain ⟨_, _, _, _, _, _, z, _⟩ := z
    exact (h _ _ _ z).elim
end
end DL
namespace DL
open PySem
theorem fz_va {d : PyData} : fz (.va d) = some d := rfl
theorem fz_own {ds : List PyData} : fz (.own ds) = some (.list ds) := rfl
section
variable {a b : Int}
theorem opAdd_i : opAdd (.int a) (.int b) = some (.int (a + b)) := rfl
theorem opSub_i : opSub (.int a) (.int b) = some (.int (a - b)) := rfl
theorem opMul_i : opMul (.int a) (.int b) = if small a b = true then some (.int (a * b)) else none := rfl
theorem opMod_i : opMod (.int a) (.int b) = if 0 < b then some (.int (a % b)) else none := rfl
theorem opFdiv_i : opFdiv (.int a) (.int b) = if 0 < b ∧ b.natAbs.log2 < 9000 then some (.int (a / b)) else none := rfl
theorem opPow_i : opPow (.int a) (.int b) = if 0 ≤ b ∧ b ≤ 100 ∧ a.natAbs < 2 ^ 10000 then some (.int (a ^ b.toNat)) else none := rfl
theorem opLt_i : opLt (.int a) (.int b) = some (.bool (decide (a < b))) := rfl
theorem opLe_i : opLe (.int a) (.int b) = some (.bool (decide (a ≤ b))) := rfl
theorem opGt_i : opGt (.int a) (.int b) = some (.bool (decide (b < a))) := rfl
theorem opGe_i : opGe (.int a) (.int b) = some (.bool (decide (b ≤ a))) := rfl
theorem opIsB_b {a b : Bool} : opIsB (.bool a) (.bool b) = some (.bool (decide (a = b))) := rfl
theorem opNotB_b {a b : Bool} : opNotB (.bool a) (.bool b) = some (.bool (!decide (a = b))) := rfl
theorem opIsN_n {d : PyData} : opIsN2 d .none = some (.bool (isN d)) := rfl
theorem opNotN_n {d : PyData} : opNotN2 d .none = some (.bool (!isN d)) := rfl
theorem opNeg_i : opNeg (.int a) = some (.int (-a)) := rfl
theorem bAbs_i : bAbs [.int a] = some (.int (if a < 0 then -a else a)) := rfl
theorem bMax_i : bMax [.int a, .int b] = some (.int (if b > a then b else a)) := rfl
theorem bMin_i : bMin [.int a, .int b] = some (.int (if b < a then b else a)) := rfl
theorem bInt_i : bInt [.int a] = some (.int a) := rfl
theorem bGcd_i : bGcd [.int a, .int b] = some (.int ((Nat.gcd a.natAbs b.natAbs : Nat) : Int)) := rfl
theorem bLen_l {xs : List PyData} : bLen [.list xs] = some (.int (xs.length : Int)) := rfl
theorem bLen_t {xs : List PyData} : bLen [.tuple xs] = some (.int (xs.length : Int)) := rfl
theorem opAdd_t {xs ys : List PyData} : opAdd (.tuple xs) (.tuple ys) = if xs.length + ys.length ≤ 100000 then some (.tuple (xs ++ ys)) else none := rfl
theorem opAdd_l {xs ys : List PyData} : opAdd (.list xs) (.list ys) = if xs.length + ys.length ≤ 100000 then some (.list (xs ++ ys)) else none := rfl
theorem opIx_l {xs : List PyData} : opIx (.list xs) (.int a) = atI xs a := rfl
theorem opIx_t {xs : List PyData} : opIx (.tuple xs) (.int a) = atI xs a := rfl
end
theorem opSl_t {xs : List PyData} {lo hi : Option Int} : opSl (.tuple xs) lo hi = some (.tuple (cutL xs lo hi)) := rfl
theorem opSl_l {xs : List PyData} {lo hi : Option Int} : opSl (.list xs) lo hi = some (.list (cutL xs lo hi)) := rfl
theorem opRev_t {xs : List PyData} : opRev (.tuple xs) = some (.tuple xs.reverse) := rfl
theorem opRev_l {xs : List PyData} : opRev (.list xs) = some (.list xs.reverse) := rfl
theorem bTup_l {xs : List PyData} : bTup [.list xs] = some (.tuple xs) := rfl
theorem bTup_t {xs : List PyData} : bTup [.tuple xs] = some (.tuple xs) := rfl
theorem bList_l {xs : List PyData} : bList [.list xs] = some (.list xs) := rfl
theorem bList_t {xs : List PyData} : bList [.tuple xs] = some (.list xs) := rfl
theorem cutL_all {α : Type} {p : α → Bool} {xs : List α} {lo hi : Option Int} (h : xs.all p = true) : (cutL xs lo hi).all p = true := by
  rw [List.all_eq_true] at h ⊢
  intro x hx
  exact h x (List.mem_of_mem_drop (List.mem_of_mem_take hx))
theorem cutL_len {α : Type} {xs : List α} {lo hi : Option Int} : (cutL xs lo hi).length ≤ xs.length := by
  unfold cutL
  rw [List.length_take, List.length_drop]
  omega
theorem opEq_b {a b : Bool} : opEq (.bool a) (.bool b) = some (.bool (a == b)) := by
  unfold opEq SeqAt.shaped
  simp [PyData.canLay0, PyData.depth, PyData.eqv]
theorem opNe_b {a b : Bool} : opNe (.bool a) (.bool b) = some (.bool (!(a == b))) := by
  unfold opNe SeqAt.shaped
  simp [PyData.canLay0, PyData.depth, PyData.eqv]
theorem opEq_nn : opEq .none .none = some (.bool true) := by
  unfold opEq SeqAt.shaped
  simp [PyData.canLay0, PyData.depth, PyData.eqv]
theorem mgCons_c {g : MG} {gs : MGs} {d : PyData} {r : List PyData} {sd : DSt} {Q : DSt → Prop} : mgCons g gs (d :: r) sd Q = g d sd fun s1 => gs r s1 Q := propext ⟨fun ⟨_, _, e, h⟩ => by cases e; exact h, fun h => ⟨_, _, rfl, h⟩⟩
theorem mgNil_n {sd : DSt} {Q : DSt → Prop} : mgNil [] sd Q = Q sd := propext ⟨fun h => h.2, fun h => ⟨rfl, h⟩⟩
theorem mgTup_t {n : Nat} {gs : MGs} {ds : List PyData} {sd : DSt} {Q : DSt → Prop} : mgTup n gs (.tuple ds) sd Q = (ds.length = n ∧ gs ds sd Q) := propext ⟨fun ⟨_, e, h⟩ => by cases e; exact h, fun h => ⟨_, rfl, h⟩⟩
theorem mgTup_l {n : Nat} {gs : MGs} {ds : List PyData} {sd : DSt} {Q : DSt → Prop} : mgTup n gs (.list ds) sd Q = (ds.length = n ∧ gs ds sd Q) := propext ⟨fun ⟨_, e, h⟩ => by cases e; exact h, fun h => ⟨_, rfl, h⟩⟩
theorem items_t {xs : List PyData} : items (.tuple xs) = some xs := rfl
theorem items_l {xs : List PyData} : items (.list xs) = some xs := rfl
theorem atI0 {α : Type} {x : α} {r : List α} : atI (x :: r) 0 = some x := by
  unfold atI ixN
  simp
theorem atI1 {α : Type} {x y : α} {r : List α} : atI (x :: y :: r) 1 = some y := by
  unfold atI ixN
  rw [if_pos (by decide), if_pos (by simp only [List.length_cons]; omega)]
  rfl
theorem atI2 {α : Type} {x y z : α} {r : List α} : atI (x :: y :: z :: r) 2 = some z := by
  unfold atI ixN
  rw [if_pos (by decide), if_pos (by simp only [List.length_cons]; omega)]
  rfl
theorem atI3 {α : Type} {x y z w : α} {r : List α} : atI (x :: y :: z :: w :: r) 3 = some w := by
  unfold atI ixN
  rw [if_pos (by decide), if_pos (by simp only [List.length_cons]; omega)]
  rfl
theorem atI_mem {α : Type} {xs : List α} {r : Int} (h0 : 0 ≤ r) (h1 : r < xs.length) : ∃ d ∈ xs, atI xs r = some d := by
  have hl : r.toNat < xs.length := by omega
  refine ⟨xs[r.toNat], List.getElem_mem _, ?_⟩
  unfold atI ixN
  rw [if_pos h0, if_pos h1]
  exact List.getElem?_eq_getElem hl
theorem big10 : (10 : Int).natAbs < 2 ^ 10000 := Nat.lt_of_lt_of_le (show (10 : Int).natAbs < 2 ^ 200 by decide +kernel) (Nat.pow_le_pow_right (by decide) (by decide))
theorem opEq_int {a b : Int} : opEq (.int a) (.int b) = some (.bool (decide (a = b))) := by
  unfold opEq SeqAt.shaped
  simp [PyData.canLay0, PyData.depth, PyData.eqv]
  by_cases h : a = b <;> simp [h]
theorem opNe_int {a b : Int} : opNe (.int a) (.int b) = some (.bool (!decide (a = b))) := by
  unfold opNe SeqAt.shaped
  simp [PyData.canLay0, PyData.depth, PyData.eqv]
  by_cases h : a = b <;> simp [h]
theorem opEq_str {a b : Str} : opEq (.str a) (.str b) = some (.bool (decide (a = b))) := by
  unfold opEq
  split
  · have e : PyData.eqv (.str a) (.str b) = decide (a = b) := by
      by_cases h : a = b <;> simp [PyData.eqv, h]
    rw [e]
  · rfl
theorem opNe_str {a b : Str} : opNe (.str a) (.str b) = some (.bool (!decide (a = b))) := by
  unfold opNe
  split
  · have e : PyData.eqv (.str a) (.str b) = decide (a = b) := by
      by_cases h : a = b <;> simp [PyData.eqv, h]
    rw [e]
  · rfl
end DL
namespace DL
open PySem
theorem lcL_run {mg : MG} {mt : MT} {me : ME} {vs : List Nat} {Q : List PyData → DSt → Prop} (I : DSt → Prop) (k : PyData → Option PyData) :
    ∀ ds : List PyData, (∀ d ∈ ds, ∀ s, I s → ∀ (Y : PyData → DSt → Prop) (N : DSt → Prop), (∀ y s3, k d = some y → I s3 → Y y s3) → (∀ s2, k d = none → I s2 → N s2) → mg d (swipe s vs) fun s1 => mt s1 fun b s2 => if b = true then me s2 Y else N s2) →
      ∀ s acc, I s → acc.length + ds.length ≤ 100000 → (∀ s', I s' → Q (acc ++ ds.filterMap k) s') → lcL mg mt me vs Q ds s acc
  | [], _, s, acc, i, _, q => by
    have := q s i
    rw [List.filterMap_nil, List.append_nil] at this
    exact this
  | d :: ds, h, s, acc, i, hl, q => by
    refine h d (by simp) s i _ _ (fun y s3 e i3 => ⟨by simp at hl; omega, ?_⟩) (fun s2 e i2 => ?_)
    · refine lcL_run I k ds (fun d' hd => h d' (by simp [hd])) s3 (acc ++ [y]) i3 (by simp at hl ⊢; omega) fun s' i' => ?_
      have := q s' i'
      rw [List.filterMap_cons_some e] at this
      simpa using this
    · refine lcL_run I k ds (fun d' hd => h d' (by simp [hd])) s2 acc i2 (by simp at hl; omega) fun s' i' => ?_
      have := q s' i'
      rwa [List.filterMap_cons_none e] at this
theorem forL_run {mg : MG} {body : MS} {D : DE} (I : List PyData → DSt → Prop) (hs : ∀ d r s (N : DSt → Prop), I (d :: r) s → (∀ s', I r s' → N s') → mg d s fun s1 => body { D with nx := N, ct := N, bk := D.nx } s1) (he : ∀ s, I [] s → D.nx s) : ∀ ds s, I ds s → forL mg body D ds s
  | [], s, i => he s i
  | d :: r, s, i => hs d r s _ i fun s' i' => forL_run I hs he r s' i'
theorem whileN_run {t : MT} {body : MS} {D : DE} (I : Nat → DSt → Prop) (hs : ∀ n s (N : DSt → Prop), I n s → (∀ m s', m < n → I m s' → N s') → t s fun b s1 => if b = true then body { D with nx := N, ct := N, bk := D.nx } s1 else D.nx s1) :
    ∀ (k n : Nat) (s : DSt), n < k → I n s → whileN t body D k s
  | 0, n, s, h, _ => by omega
  | k + 1, n, s, h, i => hs n s _ i fun m s' hm i' => whileN_run I hs k m s' (by omega) i'
theorem whileM {t : MT} {body : MS} {D : DE} (I : Nat → DSt → Prop) {n : Nat} {s : DSt} (i : I n s) (hs : ∀ n s (N : DSt → Prop), I n s → (∀ m s', m < n → I m s' → N s') → t s fun b s1 => if b = true then body { D with nx := N, ct := N, bk := D.nx } s1 else D.nx s1) : mWhile t body D s :=
  ⟨n + 1, whileN_run I hs (n + 1) n s (Nat.lt_succ_self n) i⟩
theorem sget_eq {s : DSt} : sget s 0 = match s with
  | [] => .no
  | x :: _ => x := by cases s <;> rfl
end DL
namespace DL
open PySem
theorem bools_map {α : Type} (f : α → Bool) : ∀ xs : List α, bools (xs.map fun x => .bool (f x)) = some (xs.map f)
  | [] => rfl
  | x :: xs => by
    show (bools (xs.map fun x => .bool (f x))).map (f x :: ·) = _
    rw [bools_map f xs]
    rfl
theorem fm_some {α β : Type} (f : α → β) : ∀ xs : List α, xs.filterMap (fun d => some (f d)) = xs.map f
  | [] => rfl
  | x :: xs => by
    rw [List.filterMap_cons]
    simp [fm_some f xs]
end DL
namespace DL
open PySem
/-- a number of at most k binary digits -/
def sz (k : Nat) (z : Int) : Prop := z.natAbs < 2 ^ k
theorem sz_mono {k l : Nat} {z : Int} (h : sz k z) (hl : k ≤ l) : sz l z := Nat.lt_of_lt_of_le h (Nat.pow_le_pow_right (by decide) hl)
theorem sz_neg {k : Nat} {z : Int} (h : sz k z) : sz k (-z) := by
  unfold sz at *
  rwa [Int.natAbs_neg]
theorem sz_mul {k l : Nat} {a b : Int} (ha : sz k a) (hb : sz l b) : sz (k + l) (a * b) := by
  unfold sz at *
  rw [Int.natAbs_mul, Nat.pow_add]
  exact Nat.mul_lt_mul'' ha hb
theorem sz_add {k : Nat} {a b : Int} (ha : sz k a) (hb : sz k b) : sz (k + 1) (a + b) := by
  unfold sz at *
  have := Int.natAbs_add_le a b
  rw [Nat.pow_succ]
  omega
theorem sz_sub {k : Nat} {a b : Int} (ha : sz k a) (hb : sz k b) : sz (k + 1) (a - b) := by
  rw [Int.sub_eq_add_neg]
  exact sz_add ha (sz_neg hb)
theorem sz_le {k : Nat} {a b : Int} (hb : sz k b) (h : a.natAbs ≤ b.natAbs) : sz k a := Nat.lt_of_le_of_lt h hb
theorem sz_mod {k : Nat} {a b : Int} (hb : sz k b) (h : 0 < b) : sz k (a % b) := by
  have h1 := Int.emod_nonneg a (show b ≠ 0 by omega)
  have h2 := Int.emod_lt_of_pos a h
  exact sz_le hb (by omega)
theorem natAbs_div_le (a : Int) {b : Int} (h : 0 < b) : (a / b).natAbs ≤ a.natAbs := Int.natAbs_ediv_le_natAbs a b
theorem sz_div {k : Nat} {a b : Int} (ha : sz k a) (h : 0 < b) : sz k (a / b) := sz_le ha (natAbs_div_le a h)
theorem sz_log {k : Nat} {z : Int} (h : sz k z) : z.natAbs.log2 ≤ k := by
  by_cases h0 : z.natAbs = 0
  · rw [h0, show Nat.log2 0 = 0 by decide]
    exact Nat.zero_le _
  · exact Nat.le_of_lt ((Nat.log2_lt h0).mpr h)
theorem small_sz {a b : Int} {k l : Nat} (ha : sz k a) (hb : sz l b) (h : k + l < 1000000) : small a b = true := by
  have := sz_log ha
  have := sz_log hb
  exact decide_eq_true (by omega)
theorem opMul_ok {a b : Int} {k l : Nat} (ha : sz k a) (hb : sz l b) (h : k + l < 1000000) : opMul (.int a) (.int b) = some (.int (a * b)) := by rw [opMul_i, if_pos (small_sz ha hb h)]
theorem opMod_ok {a b : Int} (h : 0 < b) : opMod (.int a) (.int b) = some (.int (a % b)) := by rw [opMod_i, if_pos h]
theorem opFdiv_ok {a b : Int} {k : Nat} (h : 0 < b) (hb : sz k b) (hk : k < 9000) : opFdiv (.int a) (.int b) = some (.int (a / b)) := by
  have := sz_log hb
  rw [opFdiv_i, if_pos ⟨h, by omega⟩]
end DL
namespace DL
open PySem PySem.Spec PyProof.Rows L2
/-- body; an error of a class that is caught: the suite, with the error in slot i; else on -/
def mTry (body : WD → MS) (i : Nat) (cat : String → Bool) (suite : String → Addr → MS) (Wout : WD) : MS := fun D sd =>
  body (fun c sd' => (cat c = true → ∀ a, suite c a { nx := fun s => D.nx (sset s i .no), rt := D.rt, bk := fun s => D.bk (sset s i .no), ct := fun s => D.ct (sset s i .no) } (sset sd' i (.exc a))) ∧ (cat c = false → Wout c sd')) D sd
/-- isinstance(e, ..), e what slot i holds, at a -/
def mIsE (i : Nat) (a : Addr) (b : Bool) : ME := fun sd Q => sget sd i = .exc a ∧ Q (.bool b) sd
/-- from F on -/
abbrev Ct.on (C : Ct) (F : Hp) : Ct := { C with F0 := F }
section
variable {K : PySem.W.Frag} {X : Cx} {C : Ct} {F H F1 : Hp} {σ : L2.St} {sd : DSt}
theorem slot_on {v : Option V} {s : S} : SlotOk K (C.on F1) F H v s ↔ SlotOk K C F H v s := by cases s <;> exact Iff.rfl
theorem Rs.on (R : Rs K C F H σ sd) : Rs K (C.on F) F H σ sd :=
  ⟨R.len, Same.refl _, R.ext, fun _ _ e => .inl e, R.keep, R.still, fun i => slot_on.mpr (R.slot i), R.sep⟩
theorem Rs.off {F0 H0 : Hp} {σ0 : L2.St} {sd0 : DSt} (R0 : Rs K C F0 H0 σ0 sd0) (R : Rs K (C.on F0) F H σ sd) : Rs K C F H σ sd :=
  ⟨R.len, R0.grow.trans R.grow, R.ext, fun a o e => (R.new a o e).elim (fun z => R0.new a o z) .inr, R.keep, R.still, fun i => slot_on.mp (R.slot i), R.sep⟩
theorem EndOk.on {Dd : DE} {D : Ends} (R : Rs K C F H σ sd) (E : EndOk K C F Dd D) : EndOk K (C.on F) F Dd D :=
  ⟨fun F1 H1 σ1 sd1 e R1 q => E.nx F1 H1 σ1 sd1 e (R.off R1) q, fun F1 H1 σ1 sd1 v r e R1 rv o q => E.rt F1 H1 σ1 sd1 v r e (R.off R1) (slot_on.mp rv) o q, fun F1 H1 σ1 sd1 e R1 q => E.bk F1 H1 σ1 sd1 e (R.off R1) q, fun F1 H1 σ1 sd1 e R1 q => E.ct F1 H1 σ1 sd1 e (R.off R1) q⟩
variable {CN : String → Option Addr}
/-- the suite's wish, whatever the class is -/
def tSuite (K : PySem.W.Frag) (C : Ct) (CN : String → Option Addr) (suite : String → Addr → MS) : Addr → Value → Option Addr → TS := fun a cls d D σ H => ∃ c A, CN c = some A ∧ cls = .ref A ∧ d = none ∧ tDS K C (suite c a) D σ H
def tBody (K : PySem.W.Frag) (C : Ct) (CN : String → Option Addr) (mb : WD → MS) : WX → TS := fun W D σ H => ∃ F Wd, (∀ cls d σ H, wD K (C.on F) CN Wd cls d σ H → W cls d σ H) ∧ tDS K (C.on F) (mb Wd) D σ H
theorem td_try {hc : Value} {i : Nat} {cat : String → Bool} {mb : WD → MS} {suite : String → Addr → MS} {Wout : WD} (hx : ∀ c A, CN c = some A → PySem.W.exmOne K (.ref A) hc = some (cat c)) :
    ∀ D σ H, tDS K C (mTry mb i cat suite Wout) D σ H → tBody K C CN mb (wAs K hc i (tSuite K C CN suite) (wD K C CN Wout) D) D σ H := by
  rintro D σ H ⟨F, sd, Dd, R, E, h⟩
  refine ⟨F, _, ?_, F, sd, Dd, R.on, E.on R, h⟩
  rintro cls d σ1 H1 ⟨c, A, F1, sd1, hcn, rfl, rfl, R1, q1, q2⟩
  have R2 := R.off R1
  refine ⟨cat c, hx c A hcn, fun hb a ha => ⟨c, A, hcn, rfl, rfl, F1, _, _, R2.setr (v := .ref a) (r := .exc a) rfl (fun z => nomatch z), ?_, q1 hb a⟩, fun hb => ⟨c, A, F1, sd1, hcn, rfl, rfl, R2, q2 hb⟩⟩
  have E2 := E.mono R1.grow
  exact ⟨fun F3 H3 σ3 sd3 e R3 q => E2.nx F3 H3 _ _ e R3.setno q, E2.rt, fun F3 H3 σ3 sd3 e R3 q => E2.bk F3 H3 _ _ e R3.setno q, fun F3 H3 σ3 sd3 e R3 q => E2.ct F3 H3 _ _ e R3.setno q⟩
variable {x n : Str} {c : Value} {i : Nat} {body suite : List Stmt} {b₀ : Stmt} {np pos pos' : Pos}
theorem pds_try {hc : Value} {cat : String → Bool} {mb : WD → MS} {ms : String → Addr → MS} {Wout : WD} (hs : X.stack = X.env :: X.outer) (hf : X.env.frame = some X.env.locals) (hN : X.N.Nodup) (hi : X.N[i]? = some n) (hln : X.env.kindOf n = some .local) (hcn : Names X x hc) (tk : Takes X (wD X.K C CN Wout))
    (hx : ∀ c A, CN c = some A → PySem.W.exmOne X.K (.ref A) hc = some (cat c))
    (hb : ∀ (F : Hp) (Wd : WD) (pn : List (Addr × Obj)) (xe : Value → Shared → Prop), Takes (X.tr pn xe) (wD X.K (C.on F) CN Wd) → PassesOwn (model X.prog X.w) X.A X.env xe → PSs (X.tr pn xe) body (tDS X.K (C.on F) (mb Wd)))
    (hsu : ∀ (a : Addr) (oe : Obj) (pn : List (Addr × Obj)) (c : String) (A : Addr), CN c = some A → Zc (.ref A) none oe → (∃ vs, oe.data = .fields vs) → PSs (X.suite a ((a, oe) :: pn)) (b₀ :: suite) (tDS X.K C (ms c a))) :
    PS X (.Try body [.ExceptHandler (some (.Name x np)) (some n) (b₀ :: suite) pos'] [] [] pos) (tDS X.K C (mTry mb i cat ms Wout)) := by
  refine ps_imp (ps_try_as (ts := tSuite X.K C CN ms) (tb := tBody X.K C CN mb) hs hf hN hi hln hcn tk (fun W pn xe tk' po => ?_) (fun a oe cls d pn hz hfl => ?_)) (td_try hx)
  · refine ⟨fun pins s σ H D I h => ?_⟩
    obtain ⟨F, Wd, hw, h⟩ := h
    exact (hb F Wd pn xe (tk'.imp hw) po).run pins s σ H D I h
  · refine ⟨fun pins s σ H D I h => ?_⟩
    obtain ⟨c, A, hA, rfl, rfl, h⟩ := h
    exact (hsu a oe pn c A hA hz hfl).run pins s σ H D I h
/-- isinstance(n, T) in a suite -/
theorem pd_isE {a A : Addr} {oe : Obj} {pn : List (Addr × Obj)} {i : Nat} {y : Str} {p p2 pos : Pos} {b : Bool} {tv : V} {cv : Value} {te : Expr} (EC : ExcC X.K A) (hz : Zc (.ref A) none oe) (hfl : ∃ vs, oe.data = .fields vs) (hm : X.mg "isinstance" = none)
    (hk : PySem.W.kitOne X.K (.ref A) cv = some b) (hcv : ∀ u, RelV tv u → u = cv) (hN : (X.suite a ((a, oe) :: pn)).N[i]? = some y) (hv : Vis (X.suite a ((a, oe) :: pn)).env.scope y) (hT : PE (X.suite a ((a, oe) :: pn)) te (tC tv))
    (hg : Gl (X.suite a ((a, oe) :: pn)) "isinstance" := by rfl) (hd : (y == ("__debug__" : Str)) = false := by decide) (hcd : (y == ("__classdict__" : Str)) = false := by decide)
    (he : starEach (.Name y p2 :: [te]) X.env = (false, eval (.Name y p2) X.env) :: starEach [te] X.env := by rfl) (he1 : starEach (te :: []) X.env = (false, eval te X.env) :: starEach [] X.env := by rfl) (hpl : (backTo pos (starEach [te] X.env)).any (·.1) = false := by rfl) :
    PE (X.suite a ((a, oe) :: pn)) (.Call (.Name "isinstance" p) [.Name y p2, te] [] pos) (tD X.K C (mIsE i a b)) := pe_imp (pe_callB (call_isE EC hz hfl) hg hm (by decide +kernel) (pa_cons (pe_var hN hv hd hcd) (pa_cons hT pa_nil he1) he) (by decide) (by decide) he hpl) (by
  rintro σ H Q ⟨F, sd, Qd, R, ⟨hs, h⟩, k⟩
  have hi := R.slot i
  rw [hs] at hi
  refine ⟨.ref a, gv_some.mp hi, tv, cv, b, rfl, hcv, hk, ?_⟩
  exact k _ H F _ sd R .refl (.bl _) h)
end
end DL
namespace DL
open PySem PySem.Spec PyProof.Rows L2
/-- xs.f(x) -/
def mMeth (f : List PyData → PyData → Option PyData) (ma mb : ME) : ME := fun sd Q => ma sd fun a s1 => ∃ xs, a = .list xs ∧ mb s1 fun b s2 => ∃ r, f xs b = some r ∧ Q r s2
def opCnt (xs : List PyData) (b : PyData) : Option PyData := if (flatD b && xs.all flatD) = true then some (.int (xs.countP (fun d => PyData.eqv d b) : Nat)) else none
def firstAt (b : PyData) : List PyData → Option Nat
  | [] => none
  | d :: ds => if PyData.eqv d b = true then some 0 else (firstAt b ds).map (· + 1)
def opIdx (xs : List PyData) (b : PyData) : Option PyData := if (flatD b && xs.all flatD) = true then (firstAt b xs).map fun n => .int (n : Nat) else none
section
variable {K : PySem.W.Frag} {X : Cx} {C : Ct}
def rCntF (K : PySem.W.Frag) : V → List V → Hp → VK → Prop := fun x xs H Q => ∃ (p : Addr) (ys : List V) (y : V), x = .ref p ∧ xs = [y] ∧ SqL K H p ys ∧ flatV y = true ∧ ys.all flatV = true ∧ Q (.int (ys.countP (fun z => eqV z y) : Nat)) H
theorem countU {y : V} : ∀ {ys : List V} {us : List Value}, Vals ys us → ys.all flatV = true → us.countP (eqU y) = ys.countP (fun z => eqV z y)
  | _, _, .nil, _ => rfl
  | z :: ys, u :: us, .cons r rr, f => by
    rw [List.all_cons, Bool.and_eq_true] at f
    rw [List.countP_cons, List.countP_cons, countU rr f.2, eqU_of r f.1]
theorem mt_countF : MtR X "list.count" (rCntF X.K) := by
  intro pins s σ H x xs v us Q I rx rxs h
  obtain ⟨p, ys, y, rfl, rfl, hs, fy, fys, q⟩ := h
  cases rx
  obtain ⟨u, rfl, ru⟩ := rxs.one
  obtain ⟨its, rv, ⟨⟨cls, dd, data, sl⟩, n, ho, hc, hdn, hd⟩, hlen⟩ := I.list hs
  simp only at hc hd
  subst hc hd
  refine call_meets PySem.F.slot_list_count ⟨_, ho, rfl⟩ PySem.F.entry_list_count (PySem.F.args_list_count_2 _ _) (SeqAt.list_countAt p its.toArray n dd sl u (eqU y)) ⟨ho, fun u' hu' => mem_eqAt ru fy rv fys u' (by simpa using hu'), ?_⟩
  have ec : its.toArray.toList.countP (eqU y) = ys.countP (fun z => eqV z y) := countU rv fys
  refine ⟨.int (ys.countP (fun z => eqV z y) : Nat), H, I.tok _, ⟨s.toks, ?_⟩, q⟩
  show Value.int ((its.toArray.toList.countP (eqU y) : Nat) : Int) s.toks = _
  rw [ec]
theorem flats_rp {F : Hp} : ∀ {vs : List V} {ds : List PyData}, RpA K F vs ds → ds.all flatD = true → vs.all flatV = true
  | _, _, .nil, _ => rfl
  | v :: vs, d :: ds, .cons h r, hf => by
    rw [List.all_cons, Bool.and_eq_true] at hf
    rw [List.all_cons, flatV_rp h hf.1, flats_rp r hf.2]
    rfl
theorem count_rp {F : Hp} {y : V} {b : PyData} (ry : Rp K F y b) (hb : flatD b = true) : ∀ {vs : List V} {ds : List PyData}, RpA K F vs ds → ds.all flatD = true → vs.countP (fun z => eqV z y) = ds.countP (fun d => PyData.eqv d b)
  | _, _, .nil, _ => rfl
  | v :: vs, d :: ds, .cons h r, hf => by
    rw [List.all_cons, Bool.and_eq_true] at hf
    rw [List.countP_cons, List.countP_cons, count_rp ry hb r hf.2, eqV_rp h ry hf.1 hb]
theorem first_rp {F : Hp} {y : V} {b : PyData} (ry : Rp K F y b) (hb : flatD b = true) : ∀ {vs : List V} {ds : List PyData} {n : Nat}, RpA K F vs ds → ds.all flatD = true → firstAt b ds = some n →
    ∃ z, vs[n]? = some z ∧ eqV z y = true ∧ ∀ (m : Nat) (z' : V), m < n → vs[m]? = some z' → eqV z' y = false
  | _, _, _, .nil, _, e => by cases e
  | v :: vs, d :: ds, n, .cons h r, hf, e => by
    rw [List.all_cons, Bool.and_eq_true] at hf
    unfold firstAt at e
    by_cases c : PyData.eqv d b = true
    · rw [if_pos c] at e
      cases e
      exact ⟨v, rfl, (eqV_rp h ry hf.1 hb).trans c, fun m z' hm _ => by omega⟩
    · rw [if_neg c] at e
      obtain ⟨k, hk, rfl⟩ := Option.map_eq_some_iff.mp e
      obtain ⟨z, z1, z2, z3⟩ := first_rp ry hb r hf.2 hk
      refine ⟨z, by simpa using z1, z2, fun m z' hm hz => ?_⟩
      cases m with
      | zero =>
        cases hz
        rw [eqV_rp h ry hf.1 hb]
        simpa using c
      | succ m => exact z3 m z' (by omega) (by simpa using hz)
theorem td_meth {r : V → List V → Hp → VK → Prop} {f : List PyData → PyData → Option PyData} {ma mb : ME}
    (L : ∀ (F H : Hp) (p : Addr) (vs : List V) (ds : List PyData) (y : V) (b z : PyData) (Q : VK), Same F H → F p = some (.lst vs) → RpA K F vs ds → Rp K F y b → f ds b = some z → (∀ v, Rp K F v z → Q v H) → r (.ref p) [y] H Q) :
    ∀ σ H Q, tD K C (mMeth f ma mb) σ H Q → tBM K "list" r (tD K C ma) (tCons (tD K C mb) tNil) σ H Q := by
  rintro σ H Q ⟨F, sd, Qd, R, h, k⟩
  refine ⟨F, sd, _, R, h, fun x H1 F1 a sd1 R1 S1 rx h1 => ?_⟩
  obtain ⟨xs, rfl, h1⟩ := h1
  cases rx with
  | lst hp ra =>
    refine ⟨.inl ⟨rfl, _, .inl (.inl (R1.ext _ _ hp))⟩, F1, sd1, _, R1, h1, fun y H2 F2 b sd2 R2 S2 ry h2 => ?_⟩
    obtain ⟨z, e, q⟩ := h2
    exact L F2 H2 _ _ xs y b z Q R2.ext (S2.fr _ _ hp) (ra.mono S2.fr) ry e fun v rz => k v H2 F2 z sd2 R2 (S1.trans S2) rz q
variable {o e : Expr} {apos cpos : Pos} {ma mb : ME}
theorem pd_count (ho : PE X o (tD X.K C ma)) (he : PE X e (tD X.K C mb)) (t : PE X (.Call (.Attribute o "count" apos) [e] [] cpos) (tBM X.K "list" (rCntF X.K) (tD X.K C ma) (tCons (tD X.K C mb) tNil))) : PE X (.Call (.Attribute o "count" apos) [e] [] cpos) (tD X.K C (mMeth opCnt ma mb)) := pe_imp t (td_meth (by
  intro F H p vs ds y b z Q e hp ra ry h k
  unfold opCnt at h
  split at h
  · rename_i hc
    cases h
    rw [Bool.and_eq_true] at hc
    refine ⟨p, vs, y, rfl, rfl, .inl (.inl (e _ _ hp)), flatV_rp ry hc.1, flats_rp ra hc.2, ?_⟩
    rw [count_rp ry hc.1 ra hc.2]
    exact k _ (.int _)
  · cases h))
theorem pd_index (ho : PE X o (tD X.K C ma)) (he : PE X e (tD X.K C mb)) (t : PE X (.Call (.Attribute o "index" apos) [e] [] cpos) (tBM X.K "list" (rIndex X.K) (tD X.K C ma) (tCons (tD X.K C mb) tNil))) : PE X (.Call (.Attribute o "index" apos) [e] [] cpos) (tD X.K C (mMeth opIdx ma mb)) := pe_imp t (td_meth (by
  intro F H p vs ds y b z Q e hp ra ry h k
  unfold opIdx at h
  split at h
  · rename_i hc
    rw [Bool.and_eq_true] at hc
    obtain ⟨n, hn, rfl⟩ := Option.map_eq_some_iff.mp h
    obtain ⟨z, z1, z2, z3⟩ := first_rp ry hc.1 ra hc.2 hn
    exact ⟨p, vs, y, n, z, rfl, rfl, .inl (.inl (e _ _ hp)), flatV_rp ry hc.1, flats_rp ra hc.2, z1, z2, z3, k _ (.int _)⟩
  · cases h))
end
end DL
namespace DL
open PySem PySem.Spec PyProof.Rows L2
/-- x[k] = e, x a slot that owns its list -/
def mSet (i : Nat) (mi me : ME) : MS := fun D sd => me sd fun v s1 => (∃ ds, sget s1 i = .own ds) ∧ mi s1 fun k s2 => ∃ ds j n, sget s2 i = .own ds ∧ k = .int j ∧ DL.ixN ds.length j = some n ∧ D.nx (sset s2 i (.own (ds.set n v)))
/-- list(e), a list that nobody else holds -/
def mrListOf (me : ME) : MR := fun sd Q => me sd fun d s1 => ∃ ds, items d = some ds ∧ Q (.own ds) s1
theorem RpA.set {K : PySem.W.Frag} {F : Hp} {v : V} {d : PyData} (q : Rp K F v d) : ∀ {vs : List V} {ds : List PyData} (n : Nat), RpA K F vs ds → RpA K F (vs.set n v) (ds.set n d)
  | _, _, _, .nil => .nil
  | _, _, 0, .cons _ r => .cons q r
  | _, _, n + 1, .cons h r => .cons h (RpA.set q n r)
/-- a; b, by what holds between them -/
theorem seq_run {a b : MS} {D : DE} {sd : DSt} (P : DSt → Prop) (h1 : ∀ N : DSt → Prop, (∀ s, P s → N s) → a { D with nx := N } sd) (h2 : ∀ s, P s → b D s) : mSeq a b D sd := h1 _ h2
/-- if t: a else b, where t is known to say c -/
theorem if_run {t : MT} {a b : MS} {D : DE} {sd : DSt} (c : Bool) (ht : ∀ Q : Bool → DSt → Prop, Q c sd → t sd Q) (ha : c = true → a D sd) (hb : c = false → b D sd) : mIf t a b D sd := ht _ (by
  cases c with
  | true => exact ha rfl
  | false => exact hb rfl)
/-- x = e, where e is known to be d -/
theorem asg_run {e : ME} {i : Nat} {D : DE} {sd : DSt} (d : PyData) (he : ∀ Q : PyData → DSt → Prop, Q d sd → e sd Q) (h : D.nx (sset sd i (.va d))) : mAsg e (mgName i) D sd := he _ h
theorem opIn_2 {x a b : Int} : opIn (.int x) (.tuple [.int a, .int b]) = some (.bool (decide (a = x) || decide (b = x))) := by
  simp [opIn, opInS, items, flatD, PyData.eqv]
  congr 1 <;> exact decide_eq_decide.mpr Iff.rfl
theorem opNotIn_2 {x a b : Int} : opNotIn (.int x) (.tuple [.int a, .int b]) = some (.bool (!(decide (a = x) || decide (b = x)))) := by
  simp [opNotIn, opInS, items, flatD, PyData.eqv]
  congr 1 <;> exact decide_eq_decide.mpr Iff.rfl
section
variable {K : PySem.W.Frag} {X : Cx} {C : Ct}
theorem pds_setIx {i : Nat} {tg e : Expr} {pos : Pos} {mi me : ME} (t : PS X (.Assign [tg] e pos) (tAsg (tD X.K C me) (gSub (tVar i) (tD X.K C mi) rSetL))) : PS X (.Assign [tg] e pos) (tDS X.K C (mSet i mi me)) := ps_imp t (by
  rintro D σ H ⟨F, sd, Dd, R, E, h⟩
  refine ⟨F, sd, _, R, h, fun v H1 F1 d sd1 R1 S1 rv hh => ?_⟩
  obtain ⟨⟨ds0, h0⟩, h2⟩ := hh
  have hi := R1.slot i
  rw [h0] at hi
  obtain ⟨q, vs, e1, e2, e3, e4, r⟩ := hi
  refine ⟨.ref q, gv_some.mp e1, F1, sd1, _, R1, h2, fun k H2 F2 kd sd2 R2 S2 rk h3 => ?_⟩
  obtain ⟨ds, j, n, g1, rfl, g2, hnx⟩ := h3
  cases rk
  have hi2 := R2.slot i
  rw [g1] at hi2
  obtain ⟨q', vs2, z1, z2, z3, z4, r2⟩ := hi2
  rw [e1] at z1; cases z1
  refine ⟨q, vs2, j, n, rfl, rfl, z2, by rw [r2.length]; exact g2, ?_⟩
  exact E.nx F2 _ σ _ (S1.fr.trans S2.fr) (R2.setOwn g1 e1 (RpA.set (rv.mono S2.fr) n r2)) hnx)
theorem pdr_listOf {e : Expr} {x : Str} {p pos : Pos} {me : ME} (hm : X.mg x = none) (hv : bootBuiltins x = some (.type "list"))
    (ha : PE X e (tD X.K C me)) (hg : Gl X x := by rfl) (hn : x ≠ "__name__" := by decide) (hdb : (x == ("__debug__" : Str)) = false := by decide)
    (he1 : starEach [e] X.env = (false, eval e X.env) :: starEach [] X.env := by rfl) (hpl : (backTo pos (starEach [] X.env)).any (·.1) = false := by rfl) : PE X (.Call (.Name x p) [e] [] pos) (tDR X.K C (mrListOf me)) :=
  pe_imp (pe_callTy call_list_of hg hm hv (pa_cons ha pa_nil he1) hn hdb he1 hpl) (by
  rintro σ H Q ⟨F, sd, Qd, R, h, k⟩
  refine ⟨F, sd, _, R, h, fun v H1 F1 d sd1 R1 S1 rv hh => ?_⟩
  obtain ⟨ds, hd, q⟩ := hh
  cases d with
  | list xs =>
    cases hd
    cases rv with
    | lst h1 r1 => exact ⟨_, _, rfl, .inl (.inl (.inl (R1.ext _ _ h1))), fun l hl => k (.ref l) _ F1 (.own _) sd1 (R1.allocH hl) (S1.trans ⟨Same.refl _, fun x o e _ => same_new hl x o e, fun _ z => z, fun _ _ z => .inl z, fun x e => by
        by_cases z : x = l
        · subst z; exact hl
        · rw [upd_ne z] at e; exact e⟩) ⟨l, _, rfl, upd_same, R1.free hl, R1.still l hl, r1⟩ (fun _ w ew ow => by
          cases ew
          obtain ⟨i, o1, o2⟩ := ow
          have hi := R1.slot i
          generalize hs : sget sd1 i = s at hi o1
          cases s with
          | own es => obtain ⟨p2, vs2, a1, a2, _⟩ := hi; rw [o2] at a1; cases a1; rw [hl] at a2; cases a2
          | well m => obtain ⟨p2, _, _, _, a1, a2, _⟩ := hi; rw [o2] at a1; cases a1; rw [hl] at a2; cases a2
          | _ => cases o1) (fun _ w ew => by
          cases ew
          exact S1.st l hl) q⟩
  | tuple xs =>
    cases hd
    cases rv with
    | tup h1 r1 => exact ⟨_, _, rfl, .inr (same_t R1.ext h1), fun l hl => k (.ref l) _ F1 (.own _) sd1 (R1.allocH hl) (S1.trans ⟨Same.refl _, fun x o e _ => same_new hl x o e, fun _ z => z, fun _ _ z => .inl z, fun x e => by
        by_cases z : x = l
        · subst z; exact hl
        · rw [upd_ne z] at e; exact e⟩) ⟨l, _, rfl, upd_same, R1.free hl, R1.still l hl, r1⟩ (fun _ w ew ow => by
          cases ew
          obtain ⟨i, o1, o2⟩ := ow
          have hi := R1.slot i
          generalize hs : sget sd1 i = s at hi o1
          cases s with
          | own es => obtain ⟨p2, vs2, a1, a2, _⟩ := hi; rw [o2] at a1; cases a1; rw [hl] at a2; cases a2
          | well m => obtain ⟨p2, _, _, _, a1, a2, _⟩ := hi; rw [o2] at a1; cases a1; rw [hl] at a2; cases a2
          | _ => cases o1) (fun _ w ew => by
          cases ew
          exact S1.st l hl) q⟩
  | _ => cases hd)
end
end DL
namespace LW
open PySem PySem.Spec PyProof.Rows L2 DL
def topS (i : Nat) : Stmt := PySem.Challenge.pw_cushionshots_k02_places_and_ways.main.body.getD i (.Pass ⟨0, 0, 0, 0⟩)
abbrev s_is_whole : Stmt := topS 8
theorem sc_is_whole : FnScope ["value"] ["value"] (defScope s_is_whole) := ⟨rfl, rfl, rfl, by decide +kernel, rfl, by decide +kernel, by decide +kernel⟩
abbrev s_are_whole : Stmt := topS 9
theorem sc_are_whole : FnScope ["value", "many", "item"] ["value", "many"] (defScope s_are_whole) := ⟨rfl, rfl, rfl, by decide +kernel, rfl, by decide +kernel, by decide +kernel⟩
abbrev s_fraction_of : Stmt := topS 10
theorem sc_fraction_of : FnScope ["top", "bottom", "common"] ["top", "bottom"] (defScope s_fraction_of) := ⟨rfl, rfl, rfl, by decide +kernel, rfl, by decide +kernel, by decide +kernel⟩
abbrev s__line_of : Stmt := topS 12
theorem sc__line_of : FnScope ["side", "start", "speed"] ["side", "start", "speed"] (defScope s__line_of) := ⟨rfl, rfl, rfl, by decide +kernel, rfl, by decide +kernel, by decide +kernel⟩
abbrev s_lines_of : Stmt := topS 11
theorem sc_lines_of : FnScope ["table", "shot", "width", "height", "x", "y", "p", "q"] ["table", "shot"] (defScope s_lines_of) := ⟨rfl, rfl, rfl, by decide +kernel, rfl, by decide +kernel, by decide +kernel⟩
abbrev s_is_table : Stmt := topS 14
theorem sc_is_table : FnScope ["value"] ["value"] (defScope s_is_table) := ⟨rfl, rfl, rfl, by decide +kernel, rfl, by decide +kernel, by decide +kernel⟩
abbrev s_check_table : Stmt := topS 22
theorem sc_check_table : FnScope ["table"] ["table"] (defScope s_check_table) := ⟨rfl, rfl, rfl, by decide +kernel, rfl, by decide +kernel, by decide +kernel⟩
abbrev s_is_any_shot : Stmt := topS 21
theorem sc_is_any_shot : FnScope ["value"] ["value"] (defScope s_is_any_shot) := ⟨rfl, rfl, rfl, by decide +kernel, rfl, by decide +kernel, by decide +kernel⟩
abbrev s_is_shot : Stmt := topS 15
theorem sc_is_shot : FnScope ["table", "value"] ["table", "value"] (defScope s_is_shot) := ⟨rfl, rfl, rfl, by decide +kernel, rfl, by decide +kernel, by decide +kernel⟩
abbrev s_is_fraction : Stmt := topS 16
theorem sc_is_fraction : FnScope ["value"] ["value"] (defScope s_is_fraction) := ⟨rfl, rfl, rfl, by decide +kernel, rfl, by decide +kernel, by decide +kernel⟩
abbrev s__fold : Stmt := topS 26
theorem sc__fold : FnScope ["side", "number", "top", "bottom", "rest"] ["side", "number"] (defScope s__fold) := ⟨rfl, rfl, rfl, by decide +kernel, rfl, by decide +kernel, by decide +kernel⟩
abbrev s_check_time : Stmt := topS 24
theorem sc_check_time : FnScope ["time"] ["time"] (defScope s_check_time) := ⟨rfl, rfl, rfl, by decide +kernel, rfl, by decide +kernel, by decide +kernel⟩
abbrev s_folded : Stmt := topS 17
theorem sc_folded : FnScope ["side", "number"] ["side", "number"] (defScope s_folded) := ⟨rfl, rfl, rfl, by decide +kernel, rfl, by decide +kernel, by decide +kernel⟩
abbrev s_check_shot : Stmt := topS 23
theorem sc_check_shot : FnScope ["table", "shot"] ["table", "shot"] (defScope s_check_shot) := ⟨rfl, rfl, rfl, by decide +kernel, rfl, by decide +kernel, by decide +kernel⟩
abbrev s__check_all : Stmt := topS 25
theorem sc__check_all : FnScope ["table", "shot", "time"] ["table", "shot", "time"] (defScope s__check_all) := ⟨rfl, rfl, rfl, by decide +kernel, rfl, by decide +kernel, by decide +kernel⟩
abbrev s__place : Stmt := topS 27
theorem sc__place : FnScope ["table", "shot", "time", "top", "bottom", "side", "start", "speed"] ["table", "shot", "time"] (defScope s__place) := ⟨rfl, rfl, rfl, by decide +kernel, rfl, by decide +kernel, by decide +kernel⟩
abbrev s_place_at : Stmt := topS 18
theorem sc_place_at : FnScope ["table", "shot", "time"] ["table", "shot", "time"] (defScope s_place_at) := ⟨rfl, rfl, rfl, by decide +kernel, rfl, by decide +kernel, by decide +kernel⟩
abbrev s__line_way : Stmt := topS 29
theorem sc__line_way : FnScope ["line", "time", "side", "start", "speed", "top", "bottom", "part"] ["line", "time"] (defScope s__line_way) := ⟨rfl, rfl, rfl, by decide +kernel, rfl, by decide +kernel, by decide +kernel⟩
abbrev s__way : Stmt := topS 28
theorem sc__way : FnScope ["table", "shot", "time", "line"] ["table", "shot", "time"] (defScope s__way) := ⟨rfl, rfl, rfl, by decide +kernel, rfl, by decide +kernel, by decide +kernel⟩
abbrev s_way_at : Stmt := topS 19
theorem sc_way_at : FnScope ["table", "shot", "time"] ["table", "shot", "time"] (defScope s_way_at) := ⟨rfl, rfl, rfl, by decide +kernel, rfl, by decide +kernel, by decide +kernel⟩
abbrev s_shot_at : Stmt := topS 20
theorem sc_shot_at : FnScope ["table", "shot", "time", "x", "x_bottom", "y", "y_bottom", "p", "q"] ["table", "shot", "time"] (defScope s_shot_at) := ⟨rfl, rfl, rfl, by decide +kernel, rfl, by decide +kernel, by decide +kernel⟩
abbrev s__law_well : Stmt := topS 31
theorem sc__law_well : FnScope ["script", "at", "cell"] ["script", "at"] (defScope s__law_well) := ⟨rfl, rfl, rfl, by decide +kernel, rfl, by decide +kernel, by decide +kernel⟩
abbrev s__law_draw : Stmt := topS 32
theorem sc__law_draw : FnScope ["well", "most", "digit", "blend"] ["well", "most"] (defScope s__law_draw) := ⟨rfl, rfl, rfl, by decide +kernel, rfl, by decide +kernel, by decide +kernel⟩
abbrev s__law_same : Stmt := topS 33
theorem sc__law_same : FnScope ["found", "due", "k"] ["found", "due"] (defScope s__law_same) := ⟨rfl, rfl, rfl, by decide +kernel, rfl, by decide +kernel, by decide +kernel⟩
abbrev s__law_desk : Stmt := topS 34
theorem sc__law_desk : FnScope ["well", "most", "wide", "tall"] ["well", "most"] (defScope s__law_desk) := ⟨rfl, rfl, rfl, by decide +kernel, rfl, by decide +kernel, by decide +kernel⟩
abbrev s__law_roll : Stmt := topS 35
theorem sc__law_roll : FnScope ["well", "desk", "most", "x", "y", "p", "q"] ["well", "desk", "most"] (defScope s__law_roll) := ⟨rfl, rfl, rfl, by decide +kernel, rfl, by decide +kernel, by decide +kernel⟩
abbrev s__law_low : Stmt := topS 36
theorem sc__law_low : FnScope ["top", "bottom", "a", "b"] ["top", "bottom"] (defScope s__law_low) := ⟨rfl, rfl, rfl, by decide +kernel, rfl, by decide +kernel, by decide +kernel⟩
abbrev s__law_fold : Stmt := topS 37
theorem sc__law_fold : FnScope ["edge", "top", "bottom", "rest"] ["edge", "top", "bottom"] (defScope s__law_fold) := ⟨rfl, rfl, rfl, by decide +kernel, rfl, by decide +kernel, by decide +kernel⟩
abbrev s__law_spot : Stmt := topS 38
theorem sc__law_spot : FnScope ["desk", "shot_here", "top", "bottom", "x", "y", "p", "q", "first"] ["desk", "shot_here", "top", "bottom"] (defScope s__law_spot) := ⟨rfl, rfl, rfl, by decide +kernel, rfl, by decide +kernel, by decide +kernel⟩
abbrev s__law_step : Stmt := topS 39
theorem sc__law_step : FnScope ["desk", "shot_here", "x", "y", "p", "q", "times", "mark", "way", "edge", "goal"] ["desk", "shot_here"] (defScope s__law_step) := ⟨rfl, rfl, rfl, by decide +kernel, rfl, by decide +kernel, by decide +kernel⟩
abbrev s__law_hits : Stmt := topS 40
theorem sc__law_hits : FnScope ["desk", "shot_here", "many", "x", "y", "p", "q", "ball", "now", "found", "k", "first", "second", "wait", "word", "places", "mark", "way", "top"] ["desk", "shot_here", "many"] (defScope s__law_hits) := ⟨rfl, rfl, rfl, by decide +kernel, rfl, by decide +kernel, by decide +kernel⟩
abbrev s__law_way : Stmt := topS 41
theorem sc__law_way : FnScope ["desk", "shot_here", "time_here", "x", "y", "p", "q", "now", "word", "spot"] ["desk", "shot_here", "time_here"] (defScope s__law_way) := ⟨rfl, rfl, rfl, by decide +kernel, rfl, by decide +kernel, by decide +kernel⟩
abbrev s__law_right : Stmt := topS 42
theorem sc__law_right : FnScope ["desk", "shot_here", "time_here", "top_here", "bottom_here", "due", "told", "ways", "whole", "shot_due", "one"] ["desk", "shot_here", "time_here"] (defScope s__law_right) := ⟨rfl, rfl, rfl, by decide +kernel, rfl, by decide +kernel, by decide +kernel⟩
abbrev s__law_small_right : Stmt := topS 43
theorem sc__law_small_right : FnScope ["well", "desk", "shot_here", "rows", "times", "time_here", "due", "far", "later", "row"] ["well"] (defScope s__law_small_right) := ⟨rfl, rfl, rfl, by decide +kernel, rfl, by decide +kernel, by decide +kernel⟩
abbrev s__law_folds_right : Stmt := topS 44
theorem sc__law_folds_right : FnScope ["well", "side_here", "number_here", "due", "told"] ["well"] (defScope s__law_folds_right) := ⟨rfl, rfl, rfl, by decide +kernel, rfl, by decide +kernel, by decide +kernel⟩
abbrev s_law : Stmt := topS 45
theorem sc_law : FnScope ["script", "at", "well", "turn", "desk", "shot_here", "time_here"] ["script"] (defScope s_law) := ⟨rfl, rfl, rfl, by decide +kernel, rfl, by decide +kernel, by decide +kernel⟩
structure G (K : PySem.W.Frag) (mg : Str → Option Value) (CN : String → Option Addr) : Prop where
  b_abs : mg "abs" = none
  b_all : mg "all" = none
  b_bool : mg "bool" = none
  b_gcd : mg "gcd" = some (.builtin "math.gcd")
  b_int : mg "int" = none
  b_isinstance : mg "isinstance" = none
  b_len : mg "len" = none
  b_list : mg "list" = none
  b_max : mg "max" = none
  b_min : mg "min" = none
  b_range : mg "range" = none
  b_tuple : mg "tuple" = none
  x_InvalidShot : ∃ c, CN "InvalidShot" = some c ∧ ExcCls K mg "InvalidShot" c
  x_InvalidSide : ∃ c, CN "InvalidSide" = some c ∧ ExcCls K mg "InvalidSide" c
  x_InvalidTable : ∃ c, CN "InvalidTable" = some c ∧ ExcCls K mg "InvalidTable" c
  x_InvalidTime : ∃ c, CN "InvalidTime" = some c ∧ ExcCls K mg "InvalidTime" c
section
variable {P : Program} {w : World} {K : PySem.W.Frag} {mg : Str → Option Value} {base : Heap} {CN : String → Option Addr}
theorem ok_draw {f : Addr} {fd : FuncData} (F : Fun K "_law_draw" "_law_draw" s__law_draw f fd) (mi : mg "int" = none) : FnG P w K mg base 1 f fd ["well", "most"] (spW K dDraw) := by
  refine fun_okG F sc__law_draw (fun vs H Q E h => ?_) (fun cdv A outer s H vs Q E hr h => ⟨_, pss_cons (ps_if (pt_cmpR op_gt (pe_ix ix_list (pv 0) pe_int (fun _ _ => rfl)) pe_int (nomark _))
        (pss_cons (ps_set (i := 2) sc__law_draw.nd rfl (.inl rfl) (pe_op op_mod (pe_callTy cr_int (by rfl) mi (by decide +kernel) (pa_cons (pe_ix ix_list (pv 0) pe_int (fun _ _ => rfl)) pa_nil)) (pv 1)))
        (pss_cons (ps_asg (pe_op op_fdivW (pe_ix ix_list (pv 0) pe_int (fun _ _ => rfl)) (pv 1)) (pg_sub (pv 0) pe_int set_list))
        (pss_one (ps_ret (pv 2))))) pss_nil)
      (pss_cons (ps_asg (pe_op op_add (pe_ix ix_list (pv 0) pe_int (fun _ _ => rfl)) pe_int) (pg_sub (pv 0) pe_int set_list))
      (pss_cons (ps_set (i := 3) sc__law_draw.nd rfl (.inl rfl) (pe_op op_mod (pe_op op_powW (pe_callTy cr_int (by rfl) mi (by decide +kernel) (pa_cons (pe_op op_add (pe_ix ix_list (pv 0) pe_int (fun _ _ => rfl)) (pe_op op_mulW pe_int (pe_ix ix_list (pv 0) pe_int (fun _ _ => rfl)))) pa_nil)) pe_int) (pe_op op_add (pe_op op_powW pe_int pe_int) pe_int)))
      (pss_cons (ps_set (i := 3) sc__law_draw.nd rfl (.inl rfl) (pe_op op_mod (pe_op op_powW (pe_callTy cr_int (by rfl) mi (by decide +kernel) (pa_cons (pe_op op_add (pv 3) (pe_op op_mulW pe_int (pe_ix ix_list (pv 0) pe_int (fun _ _ => rfl)))) pa_nil)) pe_int) (pe_op op_add (pe_op op_powW pe_int pe_int) pe_int)))
      (pss_one (ps_ret (pe_op op_mod (pe_callTy cr_int (by rfl) mi (by decide +kernel) (pa_cons (pe_op op_fdivW (pv 3) pe_int) pa_nil)) (pv 1))))))), ?_⟩)
  · obtain ⟨F0, p, ws, n, a, b, c, ds, Qd, rfl, _, _, _, _, r, ⟨m, rfl, _⟩, _⟩ := h
    obtain ⟨x, rfl, _⟩ := rpA1 r
    rfl
  · obtain ⟨F0, p, ws, n, a, b, c, ds, Qd, rfl, e, hF, hp, hw, r, ⟨m, rfl, h1, h2, h3, h4⟩, hq⟩ := h
    obtain ⟨x, rfl, rx⟩ := rpA1 r
    cases rx
    have ne : ∀ q o, F0 q = some o → q ≠ p := fun q o z y => by subst y; rw [hF] at z; cases z
    have fin : ∀ (a' b' c' r : Int), WellOk (n - 1) a' b' c' → 0 ≤ r → r < m → ∀ H', (∀ q, q ≠ p → H' q = H q) → H' p = some (.lst [.int a', .int b', .int c']) → Q (.int r) H' := fun a' b' c' r ok r0 r1 H' hn hs =>
      hq (.int r) H' F0 (.va (.int r)) (n - 1) ⟨Same.refl _, fun q o z => (hn q (ne q o z)).trans (e q o z), fun q o z y => (hn q z).trans y, fun q o z => .inl z, a', b', c', hs, ok⟩ (.int r) (h4 r r0 r1)
    have hL : SqL K H p [.int a, .int b, .int c] := .inl (.inl hp)
    refine ⟨.ref p, rfl, p, _, 0, .int a, rfl, rfl, hL, rfl, a, 0, rfl, rfl, decide (0 < a), rfl, ?_⟩
    refine ite2 (fun ha => ?_) (fun ha => ?_)
    · have ha : 0 < a := of_decide_eq_true ha
      refine ⟨.ref p, rfl, p, _, 0, .int a, rfl, rfl, hL, rfl, a, rfl, .int m, rfl, a, m, rfl, rfl, by show (0 : Int) < m; omega, ?_⟩
      refine ⟨.ref p, rfl, p, _, 0, .int a, rfl, rfl, hL, rfl, .int m, rfl, a, m, rfl, rfl, ⟨by show (0 : Int) < m; omega, h3⟩, ?_⟩
      refine ⟨.ref p, rfl, p, _, 0, 0, rfl, rfl, hp, rfl, ?_⟩
      refine ⟨.int (a % m), rfl, ?_⟩
      refine fin (a / m) b c (a % m) ?_ (Int.emod_nonneg _ (by omega)) (Int.emod_lt_of_pos _ (by omega)) _ (fun q hq => upd_ne hq) upd_same
      refine ⟨Int.ediv_nonneg hw.a0 (by omega), ?_, hw.b0, hw.b1, hw.c0, by have := hw.c1; omega⟩
      refine Nat.lt_of_le_of_lt ?_ hw.a1
      have h5 : a / m ≤ a := Int.ediv_le_self m hw.a0
      have h6 : 0 ≤ a / m := Int.ediv_nonneg hw.a0 (by omega)
      omega
    · refine ⟨.ref p, rfl, p, _, 2, .int c, rfl, rfl, hL, rfl, c, 1, rfl, rfl, ?_⟩
      refine ⟨.ref p, rfl, p, _, 2, 2, rfl, rfl, hp, rfl, ?_⟩
      have hL2 : SqL K (upd H p (.lst [.int a, .int b, .int (c + 1)])) p [.int a, .int b, .int (c + 1)] := .inl (.inl upd_same)
      have c0 := hw.c0
      have c1 := hw.c1
      have b0 := hw.b0
      have b1 := hw.b1
      have big : ∀ z : Int, 0 ≤ z → z < 2 ^ 200 → z.natAbs < 2 ^ 10000 := fun z z0 z1 => by
        have : z.natAbs < 2 ^ 200 := by omega
        exact Nat.lt_of_lt_of_le this (Nat.pow_le_pow_right (by decide) (by decide))
      have lg : ∀ z : Int, 0 ≤ z → z < 2 ^ 200 → z.natAbs.log2 < 400 := fun z z0 z1 => by
        by_cases hz : z.natAbs = 0
        · rw [hz]; decide
        · refine (Nat.log2_lt hz).mpr ?_
          have : z.natAbs < 2 ^ 200 := by omega
          exact Nat.lt_of_lt_of_le this (Nat.pow_le_pow_right (by decide) (by decide))
      refine ⟨.ref p, rfl, p, _, 1, .int b, rfl, rfl, hL2, rfl, .ref p, rfl, p, _, 2, .int (c + 1), rfl, rfl, hL2, rfl, _, _, rfl, rfl, ?_, _, _, rfl, rfl, _, rfl, _, _, rfl, rfl, ⟨by decide, by decide, ?_⟩, _, _, rfl, rfl, ⟨by decide, by decide, big 10 (by decide) (by decide)⟩, _, _, rfl, rfl, _, _, rfl, rfl, ?_, ?_⟩
      · show (961748941 : Int).natAbs.log2 + (c + 1).natAbs.log2 < 1000000
        have q1 : (961748941 : Int).natAbs.log2 = 29 := by decide +kernel
        have q2 := lg (c + 1) (by omega) (by omega)
        rw [q1]; omega
      · exact big _ (by omega) (by omega)
      · show (0 : Int) < 10 ^ Int.toNat 41 + 109
        decide +kernel
      · have y0 : 0 ≤ (b + 961748941 * (c + 1)) ^ Int.toNat 3 % (10 ^ Int.toNat 41 + 109) := Int.emod_nonneg _ (by decide +kernel)
        have y1 : (b + 961748941 * (c + 1)) ^ Int.toNat 3 % (10 ^ Int.toNat 41 + 109) < 2 ^ 150 := Int.lt_trans (Int.emod_lt_of_pos _ (by decide +kernel)) (by decide +kernel)
        show gName 3 (.int ((b + 961748941 * (c + 1)) ^ Int.toNat 3 % (10 ^ Int.toNat 41 + 109))) _ _ _
        generalize (b + 961748941 * (c + 1)) ^ Int.toNat 3 % (10 ^ Int.toNat 41 + 109) = y at y0 y1 ⊢
        refine ⟨.int y, rfl, .ref p, rfl, p, _, 2, .int (c + 1), rfl, rfl, hL2, rfl, _, _, rfl, rfl, ?_, _, _, rfl, rfl, _, rfl, _, _, rfl, rfl, ⟨by decide, by decide, ?_⟩, _, _, rfl, rfl, ⟨by decide, by decide, ?_⟩, _, _, rfl, rfl, _, _, rfl, rfl, ?_, ?_⟩
        · show (217645199 : Int).natAbs.log2 + (c + 1).natAbs.log2 < 1000000
          have q1 : (217645199 : Int).natAbs.log2 = 27 := by decide +kernel
          have q2 := lg (c + 1) (by omega) (by omega)
          rw [q1]; omega
        · exact big _ (by omega) (by omega)
        · show (10 : Int).natAbs < 2 ^ 10000
          exact big 10 (by decide) (by decide)
        · show (0 : Int) < 10 ^ Int.toNat 39 + 3
          decide +kernel
        · show gName 3 (.int ((y + 217645199 * (c + 1)) ^ Int.toNat 3 % (10 ^ Int.toNat 39 + 3))) _ _ _
          generalize (y + 217645199 * (c + 1)) ^ Int.toNat 3 % (10 ^ Int.toNat 39 + 3) = z
          refine ⟨.int z, rfl, _, _, rfl, rfl, ⟨by decide, by decide +kernel⟩, _, rfl, .int m, rfl, _, _, rfl, rfl, by show (0 : Int) < m; omega, ?_⟩
          exact fin a b (c + 1) _ ⟨hw.a0, hw.a1, b0, b1, by omega, by omega⟩ (Int.emod_nonneg _ (by omega)) (Int.emod_lt_of_pos _ (by omega)) _ (fun q hq => upd_ne hq) upd_same
theorem ok_well {f : Addr} {fd : FuncData} (F : Fun K "_law_well" "_law_well" s__law_well f fd) (mi : mg "int" = none) (ml : mg "len" = none) (mm : mg "max" = none) (ma : mg "abs" = none) : FnG P w K mg base 1 f fd ["script", "at"] (spWell K) := by
  refine fun_okG F sc__law_well (fun vs H Q E h => ?_) (fun cdv A outer s H vs Q E hr h => ⟨_, pss_cons (ps_set (i := 2) sc__law_well.nd rfl (.inl rfl) (pe_ifExp (pt_cmpR op_lt (pv 1) (pe_callB call_len_seq (by rfl) ml (by decide +kernel) (pa_cons (pv 0) pa_nil)) (nomark _)) (pe_ix ix_list (pv 0) (pv 1) (fun _ _ => rfl)) pe_int))
      (pss_one (ps_ret (pe_lst (pa_cons (pe_callB (call_max2 rfl) (by rfl) mm (by decide +kernel) (pa_cons pe_int (pa_cons (pe_op op_sub (pe_callB call_abs (by rfl) ma (by decide +kernel) (pa_cons (pv 2) pa_nil)) (pe_op op_powW pe_int pe_int)) pa_nil)))
        (pa_cons (pe_op op_add (pe_op op_add (pe_op op_mulW (pe_op op_mod (pe_callTy cr_int (by rfl) mi (by decide +kernel) (pa_cons (pv 2) pa_nil)) (pe_op op_add (pe_op op_powW pe_int pe_int) pe_int)) pe_int) (pe_op op_mulW pe_int (pv 1))) pe_int) (pa_cons pe_int pa_nil)))))), ?_⟩)
  · obtain ⟨a, ns, k, rfl, _⟩ := h
    rfl
  · obtain ⟨a, ns, k, rfl, hS, hl, hb, k0, k1, q⟩ := h
    have lg : ∀ z : Int, 0 ≤ z → z < 2 ^ 200 → z.natAbs.log2 < 400 := fun z z0 z1 => by
      by_cases hz : z.natAbs = 0
      · rw [hz]; decide
      · refine (Nat.log2_lt hz).mpr ?_
        have : z.natAbs < 2 ^ 200 := by omega
        exact Nat.lt_of_lt_of_le this (Nat.pow_le_pow_right (by decide) (by decide))
    have wide : ∀ {z : Int}, Builtin.Int.intBits z ≤ 1048576 → z.natAbs < 2 ^ 1100000 := fun {z} hz => by
      unfold Builtin.Int.intBits at hz
      by_cases h0 : z.natAbs = 0
      · rw [h0]; exact Nat.pow_pos (by decide)
      · have h00 : (z == 0) = false := by
          have : z ≠ 0 := by omega
          simpa using this
        rw [h00] at hz
        have h1 : z.natAbs.log2 + 1 ≤ 1048576 := hz
        have := (Nat.log2_lt h0 (k := 1048576)).mp (by omega)
        exact Nat.lt_of_lt_of_le this (Nat.pow_le_pow_right (by decide) (by decide))
    have big10 : (10 : Int).natAbs < 2 ^ 10000 := Nat.lt_of_lt_of_le (show (10 : Int).natAbs < 2 ^ 200 by decide +kernel) (Nat.pow_le_pow_right (by decide) (by decide))
    refine ⟨.int k, rfl, .ref a, rfl, a, _, rfl, .inl hS, k, (ns.length : Int), rfl, by simp, decide (k < ns.length), rfl, ?_⟩
    refine ite2 (fun hk => ?_) (fun hk => ?_)
    · have hk : k < ns.length := of_decide_eq_true hk
      have hb2 := hb (ns[k.toNat]'(by omega)) (List.getElem_mem _)
      have hg : (ns.map V.int)[k.toNat]? = some (.int (ns[k.toNat]'(by omega))) := by
        rw [List.getElem?_map, List.getElem?_eq_getElem (by omega)]
        rfl
      generalize ns[k.toNat]'(by omega) = z at hb2 hg
      have hz := hb2
      refine ⟨.ref a, rfl, .int k, rfl, a, _, k, .int z, rfl, rfl, hS, ?_, ?_⟩
      · have e := atI_nat hg
        rwa [Int.toNat_of_nonneg k0] at e
      refine ⟨.int z, rfl, z, rfl, _, _, rfl, rfl, ⟨by decide, by decide, big10⟩, _, _, rfl, rfl, _, _, rfl, ?_⟩
      refine ⟨.int z, rfl, z, rfl, _, _, rfl, rfl, ⟨by decide, by decide, big10⟩, _, _, rfl, rfl, _, _, rfl, rfl, by show (0 : Int) < 10 ^ Int.toNat 37 + 151; decide +kernel, _, _, rfl, rfl, ?_, .int k, rfl, _, _, rfl, rfl, ?_, _, _, rfl, rfl, _, _, rfl, rfl, by show 3 ≤ sizeLine; decide, fun p hp => ?_⟩
      · show (z % (10 ^ Int.toNat 37 + 151)).natAbs.log2 + (103 : Int).natAbs.log2 < 1000000
        have q1 : (103 : Int).natAbs.log2 = 6 := by decide +kernel
        have q2 := lg (z % (10 ^ Int.toNat 37 + 151)) (Int.emod_nonneg _ (by decide +kernel)) (Int.lt_trans (Int.emod_lt_of_pos _ (by decide +kernel)) (by decide +kernel))
        rw [q1]; omega
      · show (71 : Int).natAbs.log2 + k.natAbs.log2 < 1000000
        have q1 : (71 : Int).natAbs.log2 = 6 := by decide +kernel
        have q2 := lg k k0 (by omega)
        rw [q1]; omega
      · refine q _ p _ _ _ (fun b o e => (upd_ne (ne_of_none e hp)).trans e) hp upd_same ?_
        have m0 : 0 ≤ z % (10 ^ Int.toNat 37 + 151) := Int.emod_nonneg _ (by decide +kernel)
        have m1 : z % (10 ^ Int.toNat 37 + 151) < 2 ^ 130 := Int.lt_trans (Int.emod_lt_of_pos _ (by decide +kernel)) (by decide +kernel)
        have e18 : (10 : Int) ^ Int.toNat 18 = 1000000000000000000 := by decide +kernel
        refine ⟨?_, ?_, ?_, ?_, by decide, by decide⟩
        · split <;> omega
        · refine Nat.lt_of_le_of_lt ?_ (wide hz)
          rw [e18]
          split <;> split at * <;> omega
        · omega
        · omega
    · have hz : Builtin.Int.intBits 0 ≤ 1048576 := by decide
      show gName 2 (.int 0) _ _ _
      refine ⟨.int 0, rfl, (0 : Int), rfl, _, _, rfl, rfl, ⟨by decide, by decide, big10⟩, _, _, rfl, rfl, _, _, rfl, ?_⟩
      refine ⟨.int 0, rfl, (0 : Int), rfl, _, _, rfl, rfl, ⟨by decide, by decide, big10⟩, _, _, rfl, rfl, _, _, rfl, rfl, by show (0 : Int) < 10 ^ Int.toNat 37 + 151; decide +kernel, _, _, rfl, rfl, ?_, .int k, rfl, _, _, rfl, rfl, ?_, _, _, rfl, rfl, _, _, rfl, rfl, by show 3 ≤ sizeLine; decide, fun p hp => ?_⟩
      · show ((0 : Int) % (10 ^ Int.toNat 37 + 151)).natAbs.log2 + (103 : Int).natAbs.log2 < 1000000
        have q1 : (103 : Int).natAbs.log2 = 6 := by decide +kernel
        have q2 := lg ((0 : Int) % (10 ^ Int.toNat 37 + 151)) (Int.emod_nonneg _ (by decide +kernel)) (Int.lt_trans (Int.emod_lt_of_pos _ (by decide +kernel)) (by decide +kernel))
        rw [q1]; omega
      · show (71 : Int).natAbs.log2 + k.natAbs.log2 < 1000000
        have q1 : (71 : Int).natAbs.log2 = 6 := by decide +kernel
        have q2 := lg k k0 (by omega)
        rw [q1]; omega
      · refine q _ p _ _ _ (fun b o e => (upd_ne (ne_of_none e hp)).trans e) hp upd_same ?_
        have m0 : 0 ≤ (0 : Int) % (10 ^ Int.toNat 37 + 151) := Int.emod_nonneg _ (by decide +kernel)
        have m1 : (0 : Int) % (10 ^ Int.toNat 37 + 151) < 2 ^ 130 := Int.lt_trans (Int.emod_lt_of_pos _ (by decide +kernel)) (by decide +kernel)
        have e18 : (10 : Int) ^ Int.toNat 18 = 1000000000000000000 := by decide +kernel
        refine ⟨?_, ?_, ?_, ?_, by decide, by decide⟩
        · split <;> omega
        · refine Nat.lt_of_le_of_lt ?_ (wide hz)
          rw [e18]
          split <;> split at * <;> omega
        · omega
        · omega
end
def fracD (t b : Int) : PyData := .tuple [.int (t / (Nat.gcd t.natAbs b.natAbs : Nat)), .int (b / (Nat.gcd t.natAbs b.natAbs : Nat))]
theorem gcd_pos {t b : Int} (h : 1 ≤ b) : (0 : Int) < (Nat.gcd t.natAbs b.natAbs : Nat) := by
  have := Nat.gcd_pos_of_pos_right t.natAbs (show 0 < b.natAbs by omega)
  omega
theorem sz_gcd {t b : Int} {k : Nat} (h : 1 ≤ b) (hb : sz k b) : sz k (Nat.gcd t.natAbs b.natAbs : Nat) := by
  refine sz_le hb ?_
  rw [Int.natAbs_natCast]
  exact Nat.gcd_le_right _ (by omega)
theorem div_gcd_pos {t b : Int} (h : 1 ≤ b) : 1 ≤ b / (Nat.gcd t.natAbs b.natAbs : Nat) := by
  have g0 := gcd_pos (t := t) h
  have hd : ((Nat.gcd t.natAbs b.natAbs : Nat) : Int) ∣ b := by
    have := Nat.gcd_dvd_right t.natAbs b.natAbs
    exact Int.ofNat_dvd_left.mpr this
  have := Int.ediv_pos_of_pos_of_dvd (show 0 < b by omega) (by omega) hd
  omega
def lineA (v a : Int) : Int := if v < 0 then -a else a
def lineV (v : Int) : Int := if v < 0 then -v else v
theorem int_repr {i : Int} (h : sz 200 i) : i.natAbs.log2 < 1920 ∧ (PyData.shown (.int i)).length ≤ 70 ∧ PyData.weight (.int i) ≤ 210 := by
  have lg := sz_log h
  refine ⟨by omega, ?_, ?_⟩
  · have e := int_text_length_le10 (a := i) (k := 69) (by decide) (Nat.lt_trans h (by decide))
    show (Str.ofString (toString i)).length ≤ 70
    rw [PySem.ofString_length]
    exact e
  · simp only [PyData.weight]
    split <;> omega
theorem repr_two {a b x y p q : Int} (za : sz 200 a) (zb : sz 200 b) (zx : sz 200 x) (zy : sz 200 y) (zp : sz 200 p) (zq : sz 200 q) : reprOk (.list [.tuple [.int a, .int b], .tuple [.int x, .int y, .int p, .int q]]) = true := by
  obtain ⟨a1, a2, a3⟩ := int_repr za
  obtain ⟨b1, b2, b3⟩ := int_repr zb
  obtain ⟨x1, x2, x3⟩ := int_repr zx
  obtain ⟨y1, y2, y3⟩ := int_repr zy
  obtain ⟨p1, p2, p3⟩ := int_repr zp
  obtain ⟨q1, q2, q3⟩ := int_repr zq
  have hl : (PyData.list [.tuple [.int a, .int b], .tuple [.int x, .int y, .int p, .int q]]).leavesShort 70 = true := by
    simp only [PyData.leavesShort, PyData.leavesShortAll, decide_eq_true a2, decide_eq_true b2, decide_eq_true x2, decide_eq_true y2, decide_eq_true p2, decide_eq_true q2, Bool.and_true]
  have hw : (PyData.list [.tuple [.int a, .int b], .tuple [.int x, .int y, .int p, .int q]]).weight ≤ 2000 := by
    have e : ∀ z : Int, PyData.weight (.int z) = PyData.weight (.int z) := fun _ => rfl
    generalize ha : PyData.weight (.int a) = wa at *
    generalize hb : PyData.weight (.int b) = wb at *
    generalize hx : PyData.weight (.int x) = wx at *
    generalize hy : PyData.weight (.int y) = wy at *
    generalize hp : PyData.weight (.int p) = wp at *
    generalize hq : PyData.weight (.int q) = wq at *
    have w : (PyData.list [.tuple [.int a, .int b], .tuple [.int x, .int y, .int p, .int q]]).weight = PyData.weightAll [.int a, .int b] + 1 + (PyData.weightAll [.int x, .int y, .int p, .int q] + 1 + 0) := by rw [PyData.weight, PyData.weightAll, PyData.weightAll, PyData.weightAll, PyData.weight, PyData.weight]
    rw [w]
    simp only [PyData.weightAll, ha, hb, hx, hy, hp, hq]
    omega
  have h := PyData.shown_le 70 (by decide) _ hl
  have hs : (PyData.list [.tuple [.int a, .int b], .tuple [.int x, .int y, .int p, .int q]]).shown.length ≤ 1000000 := by omega
  have hd : (PyData.list [.tuple [.int a, .int b], .tuple [.int x, .int y, .int p, .int q]]).depth ≤ 64 := by simp [PyData.depth, PyData.depthAll]
  have hsh : (PyData.list [.tuple [.int a, .int b], .tuple [.int x, .int y, .int p, .int q]]).showable = true := by
    simp only [PyData.showable, PyData.showableAll, decide_eq_true a1, decide_eq_true b1, decide_eq_true x1, decide_eq_true y1, decide_eq_true p1, decide_eq_true q1, Bool.and_true]
  unfold reprOk
  rw [decide_eq_true hs, decide_eq_true hd, hsh]
  rfl
theorem repr_three {a b x y p q u v r s : Int} (za : sz 200 a) (zb : sz 200 b) (zx : sz 200 x) (zy : sz 200 y) (zp : sz 200 p) (zq : sz 200 q) (zu : sz 200 u) (zv : sz 200 v) (zr : sz 200 r) (zs : sz 200 s) : reprOk (.list [.tuple [.int a, .int b], .tuple [.int x, .int y, .int p, .int q], .tuple [.int u, .int v, .int r, .int s]]) = true := by
  obtain ⟨a1, a2, a3⟩ := int_repr za
  obtain ⟨b1, b2, b3⟩ := int_repr zb
  obtain ⟨x1, x2, x3⟩ := int_repr zx
  obtain ⟨y1, y2, y3⟩ := int_repr zy
  obtain ⟨p1, p2, p3⟩ := int_repr zp
  obtain ⟨q1, q2, q3⟩ := int_repr zq
  obtain ⟨u1, u2, u3⟩ := int_repr zu
  obtain ⟨v1, v2, v3⟩ := int_repr zv
  obtain ⟨r1, r2, r3⟩ := int_repr zr
  obtain ⟨s1, s2, s3⟩ := int_repr zs
  have hl : (PyData.list [.tuple [.int a, .int b], .tuple [.int x, .int y, .int p, .int q], .tuple [.int u, .int v, .int r, .int s]]).leavesShort 70 = true := by
    simp only [PyData.leavesShort, PyData.leavesShortAll, decide_eq_true a2, decide_eq_true b2, decide_eq_true x2, decide_eq_true y2, decide_eq_true p2, decide_eq_true q2, decide_eq_true u2, decide_eq_true v2, decide_eq_true r2, decide_eq_true s2, Bool.and_true]
  have hw : (PyData.list [.tuple [.int a, .int b], .tuple [.int x, .int y, .int p, .int q], .tuple [.int u, .int v, .int r, .int s]]).weight ≤ 3000 := by
    have e : ∀ z : Int, PyData.weight (.int z) = PyData.weight (.int z) := fun _ => rfl
    generalize ha : PyData.weight (.int a) = wa at *
    generalize hb : PyData.weight (.int b) = wb at *
    generalize hx : PyData.weight (.int x) = wx at *
    generalize hy : PyData.weight (.int y) = wy at *
    generalize hp : PyData.weight (.int p) = wp at *
    generalize hq : PyData.weight (.int q) = wq at *
    generalize hu : PyData.weight (.int u) = wu at *
    generalize hv : PyData.weight (.int v) = wv at *
    generalize hr : PyData.weight (.int r) = wr at *
    generalize hs : PyData.weight (.int s) = ws at *
    have w : (PyData.list [.tuple [.int a, .int b], .tuple [.int x, .int y, .int p, .int q], .tuple [.int u, .int v, .int r, .int s]]).weight = PyData.weightAll [.int a, .int b] + 1 + (PyData.weightAll [.int x, .int y, .int p, .int q] + 1 + (PyData.weightAll [.int u, .int v, .int r, .int s] + 1 + 0)) := by rw [PyData.weight, PyData.weightAll, PyData.weightAll, PyData.weightAll, PyData.weightAll, PyData.weight, PyData.weight, PyData.weight]
    rw [w]
    simp only [PyData.weightAll, ha, hb, hx, hy, hp, hq, hu, hv, hr, hs]
    omega
  have h := PyData.shown_le 70 (by decide) _ hl
  have hs' : (PyData.list [.tuple [.int a, .int b], .tuple [.int x, .int y, .int p, .int q], .tuple [.int u, .int v, .int r, .int s]]).shown.length ≤ 1000000 := by omega
  have hd : (PyData.list [.tuple [.int a, .int b], .tuple [.int x, .int y, .int p, .int q], .tuple [.int u, .int v, .int r, .int s]]).depth ≤ 64 := by simp [PyData.depth, PyData.depthAll]
  have hsh : (PyData.list [.tuple [.int a, .int b], .tuple [.int x, .int y, .int p, .int q], .tuple [.int u, .int v, .int r, .int s]]).showable = true := by
    simp only [PyData.showable, PyData.showableAll, decide_eq_true a1, decide_eq_true b1, decide_eq_true x1, decide_eq_true y1, decide_eq_true p1, decide_eq_true q1, decide_eq_true u1, decide_eq_true v1, decide_eq_true r1, decide_eq_true s1, Bool.and_true]
  unfold reprOk
  rw [decide_eq_true hs', decide_eq_true hd, hsh]
  rfl
theorem gcd_dvd_l (t m : Int) : ((Nat.gcd t.natAbs m.natAbs : Nat) : Int) ∣ t := Int.ofNat_dvd_left.mpr (Nat.gcd_dvd_left _ _)
theorem gcd_dvd_r (t m : Int) : ((Nat.gcd t.natAbs m.natAbs : Nat) : Int) ∣ m := Int.ofNat_dvd_left.mpr (Nat.gcd_dvd_right _ _)
theorem fracD_inj {t1 t2 b : Int} (hb : 1 ≤ b) (h : fracD t1 b = fracD t2 b) : t1 = t2 := by
  unfold fracD at h
  simp only [PyData.tuple.injEq, List.cons.injEq, PyData.int.injEq, and_true] at h
  obtain ⟨h1, h2⟩ := h
  have g1 := gcd_pos (t := t1) hb
  have g2 := gcd_pos (t := t2) hb
  have a1 := Int.ediv_mul_cancel (gcd_dvd_l t1 b)
  have a2 := Int.ediv_mul_cancel (gcd_dvd_r t1 b)
  have b1 := Int.ediv_mul_cancel (gcd_dvd_l t2 b)
  have b2 := Int.ediv_mul_cancel (gcd_dvd_r t2 b)
  generalize ((Nat.gcd t1.natAbs b.natAbs : Nat) : Int) = u at *
  generalize ((Nat.gcd t2.natAbs b.natAbs : Nat) : Int) = v at *
  have hd : 0 < b / u := by
    by_cases c : 0 < b / u
    · exact c
    · have : b / u * u ≤ 0 * u := Int.mul_le_mul_of_nonneg_right (by omega) (by omega)
      omega
  have e : u = v := by
    rw [← h2] at b2
    have : b / u * u = b / u * v := by omega
    exact Int.eq_of_mul_eq_mul_left (by omega) this
  rw [← a1, ← b1, h1, e]
theorem low_facts {t m : Int} (hm : 1 ≤ m) : (t / (Nat.gcd t.natAbs m.natAbs : Nat)) * m = t * (m / (Nat.gcd t.natAbs m.natAbs : Nat)) ∧ 1 ≤ m / (Nat.gcd t.natAbs m.natAbs : Nat) ∧ Nat.gcd (t / (Nat.gcd t.natAbs m.natAbs : Nat)).natAbs (m / (Nat.gcd t.natAbs m.natAbs : Nat)).natAbs = 1 := by
  have g0 := gcd_pos (t := t) hm
  have e1 := Int.ediv_mul_cancel (gcd_dvd_l t m)
  have e2 := Int.ediv_mul_cancel (gcd_dvd_r t m)
  refine ⟨?_, div_gcd_pos hm, ?_⟩
  · generalize t / (Nat.gcd t.natAbs m.natAbs : Nat) = T at *
    generalize m / (Nat.gcd t.natAbs m.natAbs : Nat) = B at *
    generalize ((Nat.gcd t.natAbs m.natAbs : Nat) : Int) = g at *
    rw [← e1, ← e2]
    simp only [Int.mul_assoc, Int.mul_comm, Int.mul_left_comm]
  · have n1 : (t / (Nat.gcd t.natAbs m.natAbs : Nat)).natAbs = t.natAbs / Nat.gcd t.natAbs m.natAbs := by
      rw [Int.natAbs_ediv_of_dvd (gcd_dvd_l t m), Int.natAbs_natCast]
    have n2 : (m / (Nat.gcd t.natAbs m.natAbs : Nat)).natAbs = m.natAbs / Nat.gcd t.natAbs m.natAbs := by
      rw [Int.natAbs_ediv_of_dvd (gcd_dvd_r t m), Int.natAbs_natCast]
    rw [n1, n2]
    exact Nat.gcd_div_gcd_div_gcd_of_pos_right (show 0 < m.natAbs by omega)
theorem low_unique {X B r b : Int} (hB : 1 ≤ B) (hb : 1 ≤ b) (hc : Nat.gcd r.natAbs b.natAbs = 1) (e : r * B = X * b) : fracD X B = .tuple [.int r, .int b] := by
  have hd : b.natAbs ∣ B.natAbs := by
    have h1 : b.natAbs ∣ r.natAbs * B.natAbs := by
      rw [← Int.natAbs_mul, e, Int.natAbs_mul]
      exact Nat.dvd_mul_left _ _
    refine Nat.Coprime.dvd_of_dvd_mul_left (k := b.natAbs) (m := r.natAbs) (n := B.natAbs) ?_ h1
    rw [Nat.Coprime, Nat.gcd_comm]
    exact hc
  obtain ⟨c, hcB⟩ := Int.natAbs_dvd_natAbs.mp hd
  have hc0 : 0 < c := by
    by_cases h : 0 < c
    · exact h
    · have : b * c ≤ b * 0 := Int.mul_le_mul_of_nonneg_left (by omega) (by omega)
      omega
  have eX : X = r * c := by
    rw [hcB] at e
    have e2 : (r * c) * b = X * b := by rw [← e]; simp only [Int.mul_assoc, Int.mul_comm, Int.mul_left_comm]
    exact (Int.eq_of_mul_eq_mul_right (by omega) e2).symm
  have hg : Nat.gcd X.natAbs B.natAbs = c.natAbs := by
    rw [eX, hcB, Int.natAbs_mul, Int.natAbs_mul, Nat.gcd_mul_right, hc, Nat.one_mul]
  have ec : ((c.natAbs : Nat) : Int) = c := by omega
  unfold fracD
  rw [hg, ec, eX, hcB, Int.mul_ediv_cancel _ (by omega), Int.mul_ediv_cancel _ (by omega)]
def foldI (s t b : Int) : Int := if t % (2 * s * b) ≤ s * b then t % (2 * s * b) else 2 * s * b - t % (2 * s * b)
end LW
namespace LW
open PySem PySem.Spec PyProof.Rows L2 DL
def m_is_whole (W : WD) : MS :=
  mRet (mrOf (mAnd (mOp1 (bIsi [.kInt]) (mVar 0)) (mNot (mOp1 (bIsi [.kBool]) (mVar 0)))))
def isInt : PyData → Bool
  | .int _ => true
  | _ => false
def D_is_whole : PSpec := fun ds Q _ => ∃ d, ds = [d] ∧ Q (.va (.bool (isInt d)))
theorem len_is_whole : ∀ ds Q E, D_is_whole ds Q E → ds.length = 1 := by
  rintro _ Q E ⟨d, rfl, _⟩
  rfl
theorem rd_is_whole : ∀ ds Q E, D_is_whole ds Q E → m_is_whole (fun c _ => E c) (endP Q) (slots0 1 ds) := by
  rintro _ Q E ⟨d, rfl, q⟩
  unfold m_is_whole
  simp only [DL.mSeq, DL.mAsg, DL.mAsgR, DL.mAsgM, DL.mrs, DL.ssets, DL.mIf, DL.mRet, DL.mRetN, DL.mrOf, DL.mrLst, DL.mrCat, DL.mrCall, DL.mDrop, DL.mNext, DL.mBreak, DL.mCont, DL.mC, DL.mVar, DL.mOp2, DL.mOp1, DL.mAnd, DL.mOr, DL.mNot, DL.mIfE, DL.mChain, DL.mNil, DL.mCons, DL.mTup, DL.mLst, DL.mCallB, DL.mDict0, DL.mPart, DL.mNoPart, DL.mSl, DL.mCall, DL.mCallK, DL.mCallW, DL.mLenScr, DL.mWell, DL.mT, DL.mTAnd, DL.mTOr, DL.mTNot, DL.mTYes, DL.mgName, DL.mgNil, DL.mgCons, DL.mgTup, DL.miSeq, DL.miRng1, DL.miRng2, DL.mRaise, DL.mApp, DL.mFor, DL.mLc, DL.mrLc, DL.sget, DL.sset, DL.slots0, DL.slotsW, DL.endP, DL.endW, DL.endL, DL.wF, DL.fz_va, DL.fz_own, List.length_cons, List.length_nil, List.map_cons, List.map_nil, List.replicate_succ, List.replicate_zero, Nat.reduceAdd, Nat.reduceSub, Nat.reduceLeDiff, List.cons_append, List.nil_append, Nat.zero_add, Nat.add_zero, Nat.sub_self, Option.some.injEq, PyData.bool.injEq, PyData.int.injEq, PyData.tuple.injEq, PyData.list.injEq, PyData.str.injEq, List.cons.injEq, DL.S.va.injEq, DL.S.own.injEq, DL.S.well.injEq, DL.S.scr.injEq, and_true, true_and, exists_eq_left', exists_eq_left, exists_eq_right, exists_eq_right', exists_and_left, exists_and_right, exists_eq, exists_eq', reduceCtorEq, false_and, and_false, exists_const, if_true, if_false, Bool.false_eq_true, reduceIte, Bool.not_true, Bool.not_false, DL.bIsi, List.any_cons, List.any_nil, Bool.or_false, Bool.or_true, Bool.false_or, Bool.true_or, DL.isK, DL.opAdd_i, DL.opSub_i, DL.opMul_i, DL.opMod_i, DL.opFdiv_i, DL.opPow_i, DL.opLt_i, DL.opLe_i, DL.opGt_i, DL.opGe_i, DL.opEq_int, DL.opNe_int, DL.opEq_str, DL.opNe_str, DL.opIsN_n, DL.opNotN_n, DL.isN, DL.opIsB_b, DL.opNotB_b, DL.opNeg_i, DL.bAbs_i, DL.bMax_i, DL.bMin_i, DL.bInt_i, DL.bGcd_i, DL.bLen_l, DL.bLen_t, DL.opAdd_t, DL.opAdd_l, DL.opIx_l, DL.opIx_t, DL.opSl_t, DL.opSl_l, DL.opRev_t, DL.opRev_l, DL.bList_l, DL.bList_t, DL.bTup_l, DL.bTup_t, DL.atI0, DL.atI1, DL.atI2, DL.atI3]
  cases d <;> simpa [isK, isInt] using q
section
variable {P : Program} {w : World} {K : PySem.W.Frag} {mg : Str → Option Value} {base : Heap} {CN : String → Option Addr}
theorem ok_is_whole {f : Addr} {fd : FuncData} (F : Fun K "is_whole" "is_whole" s_is_whole f fd) (g : G K mg CN)  : FnG P w K mg base 1 f fd ["value"] (spP K CN D_is_whole) := by
  have sc := sc_is_whole
  exact fun_okP (m := m_is_whole) F sc (by decide) len_is_whole (fun cdv A outer s H E C W hw hr tk =>
    (pds_one (pds_ret (pdr_of (pd_and (pd_isi1 .kInt g.b_isinstance g.b_int (dv 0)) (pd_one (pd_not (pd_isi1 .kBool g.b_isinstance g.b_bool (dv 0))))))))) rd_is_whole
end
end LW
namespace LW
open PySem PySem.Spec PyProof.Rows L2 DL
def m_are_whole (W : WD) : MS :=
  mRet (mrOf (mAnd (mOp1 (bIsi [.kTup]) (mVar 0)) (mAnd (mOp2 opEq (mCallB bLen (mCons (mVar 0) (mNil))) (mVar 1)) (mCallB bAll (mCons (mLc (miSeq (mVar 0)) (mgName 2) (mTYes) (mCall D_is_whole wF (mCons (mVar 2) (mNil))) [2]) (mNil))))))
def areW (d : PyData) (m : Int) : Bool := match d with
  | .tuple xs => decide ((xs.length : Int) = m) && xs.all isInt
  | _ => false
def D_are_whole : PSpec := fun ds Q _ => ∃ d m, ds = [d, .int m] ∧ m ≤ 100 ∧ Q (.va (.bool (areW d m)))
theorem len_are_whole : ∀ ds Q E, D_are_whole ds Q E → ds.length = 2 := by
  rintro _ Q E ⟨d, m, rfl, _⟩
  rfl
theorem rd_are_whole : ∀ ds Q E, D_are_whole ds Q E → m_are_whole (fun c _ => E c) (endP Q) (slots0 3 ds) := by
  rintro _ Q E ⟨d, m, rfl, hm, q⟩
  unfold m_are_whole
  simp only [DL.mSeq, DL.mAsg, DL.mAsgR, DL.mAsgM, DL.mrs, DL.ssets, DL.mIf, DL.mRet, DL.mRetN, DL.mrOf, DL.mrLst, DL.mrCat, DL.mrCall, DL.mDrop, DL.mNext, DL.mBreak, DL.mCont, DL.mC, DL.mVar, DL.mOp2, DL.mOp1, DL.mAnd, DL.mOr, DL.mNot, DL.mIfE, DL.mChain, DL.mNil, DL.mCons, DL.mTup, DL.mLst, DL.mCallB, DL.mDict0, DL.mPart, DL.mNoPart, DL.mSl, DL.mCall, DL.mCallK, DL.mCallW, DL.mLenScr, DL.mWell, DL.mT, DL.mTAnd, DL.mTOr, DL.mTNot, DL.mTYes, DL.mgName, DL.mgNil, DL.mgCons, DL.mgTup, DL.miSeq, DL.miRng1, DL.miRng2, DL.mRaise, DL.mApp, DL.mFor, DL.mLc, DL.mrLc, DL.sget, DL.sset, DL.slots0, DL.slotsW, DL.endP, DL.endW, DL.endL, DL.wF, DL.fz_va, DL.fz_own, List.length_cons, List.length_nil, List.map_cons, List.map_nil, List.replicate_succ, List.replicate_zero, Nat.reduceAdd, Nat.reduceSub, Nat.reduceLeDiff, List.cons_append, List.nil_append, Nat.zero_add, Nat.add_zero, Nat.sub_self, Option.some.injEq, PyData.bool.injEq, PyData.int.injEq, PyData.tuple.injEq, PyData.list.injEq, PyData.str.injEq, List.cons.injEq, DL.S.va.injEq, DL.S.own.injEq, DL.S.well.injEq, DL.S.scr.injEq, and_true, true_and, exists_eq_left', exists_eq_left, exists_eq_right, exists_eq_right', exists_and_left, exists_and_right, exists_eq, exists_eq', reduceCtorEq, false_and, and_false, exists_const, if_true, if_false, Bool.false_eq_true, reduceIte, Bool.not_true, Bool.not_false, DL.bIsi, List.any_cons, List.any_nil, Bool.or_false, Bool.or_true, Bool.false_or, Bool.true_or, DL.isK, DL.opAdd_i, DL.opSub_i, DL.opMul_i, DL.opMod_i, DL.opFdiv_i, DL.opPow_i, DL.opLt_i, DL.opLe_i, DL.opGt_i, DL.opGe_i, DL.opEq_int, DL.opNe_int, DL.opEq_str, DL.opNe_str, DL.opIsN_n, DL.opNotN_n, DL.isN, DL.opIsB_b, DL.opNotB_b, DL.opNeg_i, DL.bAbs_i, DL.bMax_i, DL.bMin_i, DL.bInt_i, DL.bGcd_i, DL.bLen_l, DL.bLen_t, DL.opAdd_t, DL.opAdd_l, DL.opIx_l, DL.opIx_t, DL.opSl_t, DL.opSl_l, DL.opRev_t, DL.opRev_l, DL.bList_l, DL.bList_t, DL.bTup_l, DL.bTup_t, DL.atI0, DL.atI1, DL.atI2, DL.atI3]
  cases d with
  | tuple xs =>
    simp only [DL.mSeq, DL.mAsg, DL.mAsgR, DL.mAsgM, DL.mrs, DL.ssets, DL.mIf, DL.mRet, DL.mRetN, DL.mrOf, DL.mrLst, DL.mrCat, DL.mrCall, DL.mDrop, DL.mNext, DL.mBreak, DL.mCont, DL.mC, DL.mVar, DL.mOp2, DL.mOp1, DL.mAnd, DL.mOr, DL.mNot, DL.mIfE, DL.mChain, DL.mNil, DL.mCons, DL.mTup, DL.mLst, DL.mCallB, DL.mDict0, DL.mPart, DL.mNoPart, DL.mSl, DL.mCall, DL.mCallK, DL.mCallW, DL.mLenScr, DL.mWell, DL.mT, DL.mTAnd, DL.mTOr, DL.mTNot, DL.mTYes, DL.mgName, DL.mgNil, DL.mgCons, DL.mgTup, DL.miSeq, DL.miRng1, DL.miRng2, DL.mRaise, DL.mApp, DL.mFor, DL.mLc, DL.mrLc, DL.sget, DL.sset, DL.slots0, DL.slotsW, DL.endP, DL.endW, DL.endL, DL.wF, DL.fz_va, DL.fz_own, List.length_cons, List.length_nil, List.map_cons, List.map_nil, List.replicate_succ, List.replicate_zero, Nat.reduceAdd, Nat.reduceSub, Nat.reduceLeDiff, List.cons_append, List.nil_append, Nat.zero_add, Nat.add_zero, Nat.sub_self, Option.some.injEq, PyData.bool.injEq, PyData.int.injEq, PyData.tuple.injEq, PyData.list.injEq, PyData.str.injEq, List.cons.injEq, DL.S.va.injEq, DL.S.own.injEq, DL.S.well.injEq, DL.S.scr.injEq, and_true, true_and, exists_eq_left', exists_eq_left, exists_eq_right, exists_eq_right', exists_and_left, exists_and_right, exists_eq, exists_eq', reduceCtorEq, false_and, and_false, exists_const, if_true, if_false, Bool.false_eq_true, reduceIte, Bool.not_true, Bool.not_false, DL.bIsi, List.any_cons, List.any_nil, Bool.or_false, Bool.or_true, Bool.false_or, Bool.true_or, DL.isK, DL.opAdd_i, DL.opSub_i, DL.opMul_i, DL.opMod_i, DL.opFdiv_i, DL.opPow_i, DL.opLt_i, DL.opLe_i, DL.opGt_i, DL.opGe_i, DL.opEq_int, DL.opNe_int, DL.opEq_str, DL.opNe_str, DL.opIsN_n, DL.opNotN_n, DL.isN, DL.opIsB_b, DL.opNotB_b, DL.opNeg_i, DL.bAbs_i, DL.bMax_i, DL.bMin_i, DL.bInt_i, DL.bGcd_i, DL.bLen_l, DL.bLen_t, DL.opAdd_t, DL.opAdd_l, DL.opIx_l, DL.opIx_t, DL.opSl_t, DL.opSl_l, DL.opRev_t, DL.opRev_l, DL.bList_l, DL.bList_t, DL.bTup_l, DL.bTup_t, DL.atI0, DL.atI1, DL.atI2, DL.atI3]
    by_cases h : (xs.length : Int) = m
    · rw [if_pos (by simp [h])]
      refine ⟨_, rfl, rfl, ?_⟩
      refine lcL_run (fun s => ∃ x, s = [.va (.tuple xs), .va (.int m), x]) (fun d => some (.bool (isInt d))) xs ?_ _ [] ⟨_, rfl⟩ (by simp; omega) ?_
      · rintro d hd s ⟨x, rfl⟩ Y N hY hN
        simp only [swipe, sset, sget]
        exact ⟨d, rfl, _, rfl, hY _ _ rfl ⟨_, rfl⟩⟩
      · rintro s ⟨x, rfl⟩
        simp only [bAll, List.nil_append]
        rw [fm_some, bools_map]
        refine ⟨_, rfl, ?_⟩
        have e : (xs.map isInt).all id = xs.all isInt := by rw [List.all_map]; rfl
        show Q (S.va (.bool ((xs.map isInt).all id)))
        rw [e]
        simpa [areW, h] using q
    · rw [if_neg (by simp [h])]
      simpa [areW, h] using q
  | _ => simpa [areW, isK] using q
theorem isInt_inv {d : PyData} (h : isInt d = true) : ∃ a, d = .int a := by
  cases d <;> first | exact ⟨_, rfl⟩ | cases h
theorem areW2 {d : PyData} (h : areW d 2 = true) : ∃ a b, d = .tuple [.int a, .int b] := by
  cases d with
  | tuple xs =>
    simp only [areW, Bool.and_eq_true, decide_eq_true_eq] at h
    obtain ⟨h1, h2⟩ := h
    match xs, h1, h2 with
    | [x, y], h1, h2 =>
      simp only [List.all_cons, List.all_nil, Bool.and_true, Bool.and_eq_true] at h2
      obtain ⟨a, rfl⟩ := isInt_inv h2.1
      obtain ⟨b, rfl⟩ := isInt_inv h2.2
      exact ⟨_, _, rfl⟩
    | [], h, _ => simp at h
    | [x], h, _ => simp at h
    | x :: y :: z :: r, h, _ => simp at h; omega
  | _ => simp [areW] at h
theorem areW4 {d : PyData} (h : areW d 4 = true) : ∃ a b c e, d = .tuple [.int a, .int b, .int c, .int e] := by
  cases d with
  | tuple xs =>
    simp only [areW, Bool.and_eq_true, decide_eq_true_eq] at h
    obtain ⟨h1, h2⟩ := h
    match xs, h1, h2 with
    | [x, y, z, w], h1, h2 =>
      simp only [List.all_cons, List.all_nil, Bool.and_true, Bool.and_eq_true] at h2
      obtain ⟨a, rfl⟩ := isInt_inv h2.1
      obtain ⟨b, rfl⟩ := isInt_inv h2.2.1
      obtain ⟨c, rfl⟩ := isInt_inv h2.2.2.1
      obtain ⟨e, rfl⟩ := isInt_inv h2.2.2.2
      exact ⟨_, _, _, _, rfl⟩
    | [], h, _ => simp at h
    | [x], h, _ => simp at h
    | [x, y], h, _ => simp at h
    | [x, y, z], h, _ => simp at h
    | x :: y :: z :: u :: v :: r, h, _ => simp at h; omega
  | _ => simp [areW] at h
section
variable {P : Program} {w : World} {K : PySem.W.Frag} {mg : Str → Option Value} {base : Heap} {CN : String → Option Addr}
theorem ok_are_whole {f : Addr} {fd : FuncData} (F : Fun K "are_whole" "are_whole" s_are_whole f fd) (g : G K mg CN) (c_is_whole : CalP P w K mg base CN 1 "is_whole" D_is_whole) : FnG P w K mg base 2 f fd ["value", "many"] (spP K CN D_are_whole) := by
  have sc := sc_are_whole
  exact fun_okP (m := m_are_whole) F sc (by decide) len_are_whole (fun cdv A outer s H E C W hw hr tk =>
    (pds_one (pds_ret (pdr_of (pd_and (pd_isi1 .kTup g.b_isinstance g.b_tuple (dv 0)) (pd_and (pd_cmp (or_eqD (RoomG.u64 hr)) rl_eq (pd_callB cr_len rc_len g.b_len (by decide +kernel) (pda_cons (dv 0) pda_nil)) (dv 1) (nomark _)) (pd_one (pd_callB (cr_all rfl) rc_all g.b_all (by decide +kernel) (pda_cons (pd_lc (pe_lc (own := [("item", 2)]) rfl sc.nd (pdi_seq (dv 0)) (blkOk_by (N := ["value", "many", "item"]) (sc := (defScope s_are_whole)) (by decide +kernel)) (fun _ _ _ _ _ => (dgv 2 (vs := [2]) sc.nd)) (fun _ _ _ _ _ => pdts_nil) (fun _ _ _ _ _ => (pd_call c_is_whole hr (by decide) takesF (pda_cons (dv 2) pda_nil))))) pda_nil))))))))) rd_are_whole
end
end LW
namespace LW
open PySem PySem.Spec PyProof.Rows L2 DL
def m_fraction_of (W : WD) : MS :=
  mSeq (mAsg (mCallB bGcd (mCons (mVar 0) (mCons (mVar 1) (mNil)))) (mgName 2))
  (mRet (mrOf (mTup (mCons (mOp2 opFdiv (mVar 0) (mVar 2)) (mCons (mOp2 opFdiv (mVar 1) (mVar 2)) (mNil))))))
def D_fraction_of : PSpec := fun ds Q _ => ∃ t b, ds = [.int t, .int b] ∧ 1 ≤ b ∧ sz 8000 b ∧ Q (.va (fracD t b))
theorem len_fraction_of : ∀ ds Q E, D_fraction_of ds Q E → ds.length = 2 := by
  rintro _ Q E ⟨t, b, rfl, _⟩
  rfl
theorem rd_fraction_of : ∀ ds Q E, D_fraction_of ds Q E → m_fraction_of (fun c _ => E c) (endP Q) (slots0 3 ds) := by
  rintro _ Q E ⟨t, b, rfl, hb, hs, q⟩
  unfold m_fraction_of
  simp only [DL.mSeq, DL.mAsg, DL.mAsgR, DL.mAsgM, DL.mrs, DL.ssets, DL.mIf, DL.mRet, DL.mRetN, DL.mrOf, DL.mrLst, DL.mrCat, DL.mrCall, DL.mDrop, DL.mNext, DL.mBreak, DL.mCont, DL.mC, DL.mVar, DL.mOp2, DL.mOp1, DL.mAnd, DL.mOr, DL.mNot, DL.mIfE, DL.mChain, DL.mNil, DL.mCons, DL.mTup, DL.mLst, DL.mCallB, DL.mDict0, DL.mPart, DL.mNoPart, DL.mSl, DL.mCall, DL.mCallK, DL.mCallW, DL.mLenScr, DL.mWell, DL.mT, DL.mTAnd, DL.mTOr, DL.mTNot, DL.mTYes, DL.mgName, DL.mgNil, DL.mgCons, DL.mgTup, DL.miSeq, DL.miRng1, DL.miRng2, DL.mRaise, DL.mApp, DL.mFor, DL.mLc, DL.mrLc, DL.sget, DL.sset, DL.slots0, DL.slotsW, DL.endP, DL.endW, DL.endL, DL.wF, DL.fz_va, DL.fz_own, List.length_cons, List.length_nil, List.map_cons, List.map_nil, List.replicate_succ, List.replicate_zero, Nat.reduceAdd, Nat.reduceSub, Nat.reduceLeDiff, List.cons_append, List.nil_append, Nat.zero_add, Nat.add_zero, Nat.sub_self, Option.some.injEq, PyData.bool.injEq, PyData.int.injEq, PyData.tuple.injEq, PyData.list.injEq, PyData.str.injEq, List.cons.injEq, DL.S.va.injEq, DL.S.own.injEq, DL.S.well.injEq, DL.S.scr.injEq, and_true, true_and, exists_eq_left', exists_eq_left, exists_eq_right, exists_eq_right', exists_and_left, exists_and_right, exists_eq, exists_eq', reduceCtorEq, false_and, and_false, exists_const, if_true, if_false, Bool.false_eq_true, reduceIte, Bool.not_true, Bool.not_false, DL.bIsi, List.any_cons, List.any_nil, Bool.or_false, Bool.or_true, Bool.false_or, Bool.true_or, DL.isK, DL.opAdd_i, DL.opSub_i, DL.opMul_i, DL.opMod_i, DL.opFdiv_i, DL.opPow_i, DL.opLt_i, DL.opLe_i, DL.opGt_i, DL.opGe_i, DL.opEq_int, DL.opNe_int, DL.opEq_str, DL.opNe_str, DL.opIsN_n, DL.opNotN_n, DL.isN, DL.opIsB_b, DL.opNotB_b, DL.opNeg_i, DL.bAbs_i, DL.bMax_i, DL.bMin_i, DL.bInt_i, DL.bGcd_i, DL.bLen_l, DL.bLen_t, DL.opAdd_t, DL.opAdd_l, DL.opIx_l, DL.opIx_t, DL.opSl_t, DL.opSl_l, DL.opRev_t, DL.opRev_l, DL.bList_l, DL.bList_t, DL.bTup_l, DL.bTup_t, DL.atI0, DL.atI1, DL.atI2, DL.atI3]
  have g := sz_gcd (t := t) hb hs
  have g0 := gcd_pos (t := t) hb
  exact ⟨_, by rw [← opFdiv_i]; exact opFdiv_ok g0 g (by decide), _, by rw [← opFdiv_i]; exact opFdiv_ok g0 g (by decide), q⟩
section
variable {P : Program} {w : World} {K : PySem.W.Frag} {mg : Str → Option Value} {base : Heap} {CN : String → Option Addr}
theorem ok_fraction_of {f : Addr} {fd : FuncData} (F : Fun K "fraction_of" "fraction_of" s_fraction_of f fd) (g : G K mg CN)  : FnG P w K mg base 1 f fd ["top", "bottom"] (spP K CN D_fraction_of) := by
  have sc := sc_fraction_of
  exact fun_okP (m := m_fraction_of) F sc (by decide) len_fraction_of (fun cdv A outer s H E C W hw hr tk =>
    (pds_cons (pds_asg (ps_asg (pd_gcd g.b_gcd (pda_cons (dv 0) (pda_cons (dv 1) pda_nil))) (dg 2 sc.nd)))
    (pds_one (pds_ret (pdr_of (pd_tup (pda_cons (pd_op op_fdivW rl_fdiv (dv 0) (dv 2)) (pda_cons (pd_op op_fdivW rl_fdiv (dv 1) (dv 2)) pda_nil)))))))) rd_fraction_of
end
end LW
namespace LW
open PySem PySem.Spec PyProof.Rows L2 DL
def m__line_of (W : WD) : MS :=
  mSeq (mIf (mT (mOp2 opLt (mVar 2) (mC (.int 0)))) (mRet (mrOf (mTup (mCons (mVar 0) (mCons (mOp1 opNeg (mVar 1)) (mCons (mOp1 opNeg (mVar 2)) (mNil))))))) (mNext))
  (mRet (mrOf (mTup (mCons (mVar 0) (mCons (mVar 1) (mCons (mVar 2) (mNil)))))))
def lineD (s a v : Int) : PyData := if v < 0 then .tuple [.int s, .int (-a), .int (-v)] else .tuple [.int s, .int a, .int v]
def D__line_of : PSpec := fun ds Q _ => ∃ s a v, ds = [.int s, .int a, .int v] ∧ Q (.va (lineD s a v))
theorem len__line_of : ∀ ds Q E, D__line_of ds Q E → ds.length = 3 := by
  rintro _ Q E ⟨s, a, v, rfl, _⟩
  rfl
theorem rd__line_of : ∀ ds Q E, D__line_of ds Q E → m__line_of (fun c _ => E c) (endP Q) (slots0 3 ds) := by
  rintro _ Q E ⟨s, a, v, rfl, q⟩
  unfold m__line_of
  simp only [DL.mSeq, DL.mAsg, DL.mAsgR, DL.mAsgM, DL.mrs, DL.ssets, DL.mIf, DL.mRet, DL.mRetN, DL.mrOf, DL.mrLst, DL.mrCat, DL.mrCall, DL.mDrop, DL.mNext, DL.mBreak, DL.mCont, DL.mC, DL.mVar, DL.mOp2, DL.mOp1, DL.mAnd, DL.mOr, DL.mNot, DL.mIfE, DL.mChain, DL.mNil, DL.mCons, DL.mTup, DL.mLst, DL.mCallB, DL.mDict0, DL.mPart, DL.mNoPart, DL.mSl, DL.mCall, DL.mCallK, DL.mCallW, DL.mLenScr, DL.mWell, DL.mT, DL.mTAnd, DL.mTOr, DL.mTNot, DL.mTYes, DL.mgName, DL.mgNil, DL.mgCons, DL.mgTup, DL.miSeq, DL.miRng1, DL.miRng2, DL.mRaise, DL.mApp, DL.mFor, DL.mLc, DL.mrLc, DL.sget, DL.sset, DL.slots0, DL.slotsW, DL.endP, DL.endW, DL.endL, DL.wF, DL.fz_va, DL.fz_own, List.length_cons, List.length_nil, List.map_cons, List.map_nil, List.replicate_succ, List.replicate_zero, Nat.reduceAdd, Nat.reduceSub, Nat.reduceLeDiff, List.cons_append, List.nil_append, Nat.zero_add, Nat.add_zero, Nat.sub_self, Option.some.injEq, PyData.bool.injEq, PyData.int.injEq, PyData.tuple.injEq, PyData.list.injEq, PyData.str.injEq, List.cons.injEq, DL.S.va.injEq, DL.S.own.injEq, DL.S.well.injEq, DL.S.scr.injEq, and_true, true_and, exists_eq_left', exists_eq_left, exists_eq_right, exists_eq_right', exists_and_left, exists_and_right, exists_eq, exists_eq', reduceCtorEq, false_and, and_false, exists_const, if_true, if_false, Bool.false_eq_true, reduceIte, Bool.not_true, Bool.not_false, DL.bIsi, List.any_cons, List.any_nil, Bool.or_false, Bool.or_true, Bool.false_or, Bool.true_or, DL.isK, DL.opAdd_i, DL.opSub_i, DL.opMul_i, DL.opMod_i, DL.opFdiv_i, DL.opPow_i, DL.opLt_i, DL.opLe_i, DL.opGt_i, DL.opGe_i, DL.opEq_int, DL.opNe_int, DL.opEq_str, DL.opNe_str, DL.opIsN_n, DL.opNotN_n, DL.isN, DL.opIsB_b, DL.opNotB_b, DL.opNeg_i, DL.bAbs_i, DL.bMax_i, DL.bMin_i, DL.bInt_i, DL.bGcd_i, DL.bLen_l, DL.bLen_t, DL.opAdd_t, DL.opAdd_l, DL.opIx_l, DL.opIx_t, DL.opSl_t, DL.opSl_l, DL.opRev_t, DL.opRev_l, DL.bList_l, DL.bList_t, DL.bTup_l, DL.bTup_t, DL.atI0, DL.atI1, DL.atI2, DL.atI3]
  by_cases h : v < 0
  · rw [if_pos (decide_eq_true h)]
    rw [lineD, if_pos h] at q
    exact q
  · rw [if_neg (by simpa using h)]
    rw [lineD, if_neg h] at q
    exact q
theorem lineD_eq (s a v : Int) : lineD s a v = .tuple [.int s, .int (lineA v a), .int (lineV v)] := by
  unfold lineD lineA lineV
  by_cases h : v < 0
  · rw [if_pos h, if_pos h, if_pos h]
  · rw [if_neg h, if_neg h, if_neg h]
theorem sz_lineA {k : Nat} {v a : Int} (h : sz k a) : sz k (lineA v a) := by
  unfold lineA
  split
  · exact sz_neg h
  · exact h
theorem sz_lineV {k : Nat} {v : Int} (h : sz k v) : sz k (lineV v) := by
  unfold lineV
  split
  · exact sz_neg h
  · exact h
section
variable {P : Program} {w : World} {K : PySem.W.Frag} {mg : Str → Option Value} {base : Heap} {CN : String → Option Addr}
theorem ok__line_of {f : Addr} {fd : FuncData} (F : Fun K "_line_of" "_line_of" s__line_of f fd) (g : G K mg CN)  : FnG P w K mg base 1 f fd ["side", "start", "speed"] (spP K CN D__line_of) := by
  have sc := sc__line_of
  exact fun_okP (m := m__line_of) F sc (by decide) len__line_of (fun cdv A outer s H E C W hw hr tk =>
    (pds_cons (pds_if (pdt_cmp op_lt rl_cmpI (dv 2) pd_int (nomark _)) (pds_one (pds_ret (pdr_of (pd_tup (pda_cons (dv 0) (pda_cons (pd_un un_neg rl_neg (dv 1)) (pda_cons (pd_un un_neg rl_neg (dv 2)) pda_nil))))))) pds_nil)
    (pds_one (pds_ret (pdr_of (pd_tup (pda_cons (dv 0) (pda_cons (dv 1) (pda_cons (dv 2) pda_nil))))))))) rd__line_of
end
end LW
namespace LW
open PySem PySem.Spec PyProof.Rows L2 DL
def m_lines_of (W : WD) : MS :=
  mSeq (mAsg (mVar 0) (mgTup 2 (mgCons (mgName 2) (mgCons (mgName 3) (mgNil)))))
  (mSeq (mAsg (mVar 1) (mgTup 4 (mgCons (mgName 4) (mgCons (mgName 5) (mgCons (mgName 6) (mgCons (mgName 7) (mgNil)))))))
  (mRet (mrOf (mTup (mCons (mCall D__line_of W (mCons (mVar 2) (mCons (mVar 4) (mCons (mVar 6) (mNil))))) (mCons (mCall D__line_of W (mCons (mVar 3) (mCons (mVar 5) (mCons (mVar 7) (mNil))))) (mNil)))))))
def D_lines_of : PSpec := fun ds Q _ => ∃ a b x y p q, ds = [.tuple [.int a, .int b], .tuple [.int x, .int y, .int p, .int q]] ∧ Q (.va (.tuple [lineD a x p, lineD b y q]))
theorem len_lines_of : ∀ ds Q E, D_lines_of ds Q E → ds.length = 2 := by
  rintro _ Q E ⟨a, b, x, y, p, q, rfl, _⟩
  rfl
theorem rd_lines_of : ∀ ds Q E, D_lines_of ds Q E → m_lines_of (fun c _ => E c) (endP Q) (slots0 8 ds) := by
  rintro _ Q E ⟨a, b, x, y, p, q, rfl, hq⟩
  unfold m_lines_of
  simp only [DL.mSeq, DL.mAsg, DL.mAsgR, DL.mAsgM, DL.mrs, DL.ssets, DL.mIf, DL.mRet, DL.mRetN, DL.mrOf, DL.mrLst, DL.mrCat, DL.mrCall, DL.mDrop, DL.mNext, DL.mBreak, DL.mCont, DL.mC, DL.mVar, DL.mOp2, DL.mOp1, DL.mAnd, DL.mOr, DL.mNot, DL.mIfE, DL.mChain, DL.mNil, DL.mCons, DL.mTup, DL.mLst, DL.mCallB, DL.mDict0, DL.mPart, DL.mNoPart, DL.mSl, DL.mCall, DL.mCallK, DL.mCallW, DL.mLenScr, DL.mWell, DL.mT, DL.mTAnd, DL.mTOr, DL.mTNot, DL.mTYes, DL.mgName, DL.mgNil, DL.mgCons, DL.mgTup, DL.miSeq, DL.miRng1, DL.miRng2, DL.mRaise, DL.mApp, DL.mFor, DL.mLc, DL.mrLc, DL.sget, DL.sset, DL.slots0, DL.slotsW, DL.endP, DL.endW, DL.endL, DL.wF, DL.fz_va, DL.fz_own, List.length_cons, List.length_nil, List.map_cons, List.map_nil, List.replicate_succ, List.replicate_zero, Nat.reduceAdd, Nat.reduceSub, Nat.reduceLeDiff, List.cons_append, List.nil_append, Nat.zero_add, Nat.add_zero, Nat.sub_self, Option.some.injEq, PyData.bool.injEq, PyData.int.injEq, PyData.tuple.injEq, PyData.list.injEq, PyData.str.injEq, List.cons.injEq, DL.S.va.injEq, DL.S.own.injEq, DL.S.well.injEq, DL.S.scr.injEq, and_true, true_and, exists_eq_left', exists_eq_left, exists_eq_right, exists_eq_right', exists_and_left, exists_and_right, exists_eq, exists_eq', reduceCtorEq, false_and, and_false, exists_const, if_true, if_false, Bool.false_eq_true, reduceIte, Bool.not_true, Bool.not_false, DL.bIsi, List.any_cons, List.any_nil, Bool.or_false, Bool.or_true, Bool.false_or, Bool.true_or, DL.isK, DL.opAdd_i, DL.opSub_i, DL.opMul_i, DL.opMod_i, DL.opFdiv_i, DL.opPow_i, DL.opLt_i, DL.opLe_i, DL.opGt_i, DL.opGe_i, DL.opEq_int, DL.opNe_int, DL.opEq_str, DL.opNe_str, DL.opIsN_n, DL.opNotN_n, DL.isN, DL.opIsB_b, DL.opNotB_b, DL.opNeg_i, DL.bAbs_i, DL.bMax_i, DL.bMin_i, DL.bInt_i, DL.bGcd_i, DL.bLen_l, DL.bLen_t, DL.opAdd_t, DL.opAdd_l, DL.opIx_l, DL.opIx_t, DL.opSl_t, DL.opSl_l, DL.opRev_t, DL.opRev_l, DL.bList_l, DL.bList_t, DL.bTup_l, DL.bTup_t, DL.atI0, DL.atI1, DL.atI2, DL.atI3]
  exact ⟨_, rfl, rfl, _, _, rfl, _, _, rfl, rfl, _, rfl, rfl, _, _, rfl, _, _, rfl, _, _, rfl, _, _, rfl, rfl, _, _, _, rfl, _, rfl, _, _, _, rfl, _, rfl, hq⟩
section
variable {P : Program} {w : World} {K : PySem.W.Frag} {mg : Str → Option Value} {base : Heap} {CN : String → Option Addr}
theorem ok_lines_of {f : Addr} {fd : FuncData} (F : Fun K "lines_of" "lines_of" s_lines_of f fd) (g : G K mg CN) (c__line_of : CalP P w K mg base CN 1 "_line_of" D__line_of) : FnG P w K mg base 2 f fd ["table", "shot"] (spP K CN D_lines_of) := by
  have sc := sc_lines_of
  exact fun_okP (m := m_lines_of) F sc (by decide) len_lines_of (fun cdv A outer s H E C W hw hr tk =>
    (pds_cons (pds_asg (ps_asg (dv 0) (pdg_tup rfl (gcons (dg 2 sc.nd) (gcons (dg 3 sc.nd) pdgs_nil)))))
    (pds_cons (pds_asg (ps_asg (dv 1) (pdg_tup rfl (gcons (dg 4 sc.nd) (gcons (dg 5 sc.nd) (gcons (dg 6 sc.nd) (gcons (dg 7 sc.nd) pdgs_nil)))))))
    (pds_one (pds_ret (pdr_of (pd_tup (pda_cons (pd_call c__line_of hr (by decide) tk (pda_cons (dv 2) (pda_cons (dv 4) (pda_cons (dv 6) pda_nil)))) (pda_cons (pd_call c__line_of hr (by decide) tk (pda_cons (dv 3) (pda_cons (dv 5) (pda_cons (dv 7) pda_nil)))) pda_nil))))))))) rd_lines_of
end
end LW
namespace LW
open PySem PySem.Spec PyProof.Rows L2 DL
def m_is_table (W : WD) : MS :=
  mRet (mrOf (mAnd (mCall D_are_whole W (mCons (mVar 0) (mCons (mC (.int 2)) (mNil)))) (mAnd (mOp2 opGe (mOp2 opIx (mVar 0) (mC (.int 0))) (mC (.int 1))) (mOp2 opGe (mOp2 opIx (mVar 0) (mC (.int 1))) (mC (.int 1))))))
def isTab : PyData → Bool
  | .tuple [.int a, .int b] => decide (1 ≤ a) && decide (1 ≤ b)
  | _ => false
def D_is_table : PSpec := fun ds Q _ => ∃ d, ds = [d] ∧ Q (.va (.bool (isTab d)))
theorem len_is_table : ∀ ds Q E, D_is_table ds Q E → ds.length = 1 := by
  rintro _ Q E ⟨d, rfl, _⟩
  rfl
theorem rd_is_table : ∀ ds Q E, D_is_table ds Q E → m_is_table (fun c _ => E c) (endP Q) (slots0 1 ds) := by
  rintro _ Q E ⟨d, rfl, q⟩
  unfold m_is_table
  simp only [DL.mSeq, DL.mAsg, DL.mAsgR, DL.mAsgM, DL.mrs, DL.ssets, DL.mIf, DL.mRet, DL.mRetN, DL.mrOf, DL.mrLst, DL.mrCat, DL.mrCall, DL.mDrop, DL.mNext, DL.mBreak, DL.mCont, DL.mC, DL.mVar, DL.mOp2, DL.mOp1, DL.mAnd, DL.mOr, DL.mNot, DL.mIfE, DL.mChain, DL.mNil, DL.mCons, DL.mTup, DL.mLst, DL.mCallB, DL.mDict0, DL.mPart, DL.mNoPart, DL.mSl, DL.mCall, DL.mCallK, DL.mCallW, DL.mLenScr, DL.mWell, DL.mT, DL.mTAnd, DL.mTOr, DL.mTNot, DL.mTYes, DL.mgName, DL.mgNil, DL.mgCons, DL.mgTup, DL.miSeq, DL.miRng1, DL.miRng2, DL.mRaise, DL.mApp, DL.mFor, DL.mLc, DL.mrLc, DL.sget, DL.sset, DL.slots0, DL.slotsW, DL.endP, DL.endW, DL.endL, DL.wF, DL.fz_va, DL.fz_own, List.length_cons, List.length_nil, List.map_cons, List.map_nil, List.replicate_succ, List.replicate_zero, Nat.reduceAdd, Nat.reduceSub, Nat.reduceLeDiff, List.cons_append, List.nil_append, Nat.zero_add, Nat.add_zero, Nat.sub_self, Option.some.injEq, PyData.bool.injEq, PyData.int.injEq, PyData.tuple.injEq, PyData.list.injEq, PyData.str.injEq, List.cons.injEq, DL.S.va.injEq, DL.S.own.injEq, DL.S.well.injEq, DL.S.scr.injEq, and_true, true_and, exists_eq_left', exists_eq_left, exists_eq_right, exists_eq_right', exists_and_left, exists_and_right, exists_eq, exists_eq', reduceCtorEq, false_and, and_false, exists_const, if_true, if_false, Bool.false_eq_true, reduceIte, Bool.not_true, Bool.not_false, DL.bIsi, List.any_cons, List.any_nil, Bool.or_false, Bool.or_true, Bool.false_or, Bool.true_or, DL.isK, DL.opAdd_i, DL.opSub_i, DL.opMul_i, DL.opMod_i, DL.opFdiv_i, DL.opPow_i, DL.opLt_i, DL.opLe_i, DL.opGt_i, DL.opGe_i, DL.opEq_int, DL.opNe_int, DL.opEq_str, DL.opNe_str, DL.opIsN_n, DL.opNotN_n, DL.isN, DL.opIsB_b, DL.opNotB_b, DL.opNeg_i, DL.bAbs_i, DL.bMax_i, DL.bMin_i, DL.bInt_i, DL.bGcd_i, DL.bLen_l, DL.bLen_t, DL.opAdd_t, DL.opAdd_l, DL.opIx_l, DL.opIx_t, DL.opSl_t, DL.opSl_l, DL.opRev_t, DL.opRev_l, DL.bList_l, DL.bList_t, DL.bTup_l, DL.bTup_t, DL.atI0, DL.atI1, DL.atI2, DL.atI3]
  refine ⟨d, 2, rfl, by decide, _, rfl, _, rfl, ?_⟩
  cases h : areW d 2 with
  | false =>
    rw [if_neg (by decide)]
    have e : isTab d = false := by
      unfold isTab
      split
      · simp [areW, isInt] at h
      · rfl
    rwa [e] at q
  | true =>
    obtain ⟨a, b, rfl⟩ := areW2 h
    rw [if_pos rfl]
    simp only [DL.mSeq, DL.mAsg, DL.mAsgR, DL.mAsgM, DL.mrs, DL.ssets, DL.mIf, DL.mRet, DL.mRetN, DL.mrOf, DL.mrLst, DL.mrCat, DL.mrCall, DL.mDrop, DL.mNext, DL.mBreak, DL.mCont, DL.mC, DL.mVar, DL.mOp2, DL.mOp1, DL.mAnd, DL.mOr, DL.mNot, DL.mIfE, DL.mChain, DL.mNil, DL.mCons, DL.mTup, DL.mLst, DL.mCallB, DL.mDict0, DL.mPart, DL.mNoPart, DL.mSl, DL.mCall, DL.mCallK, DL.mCallW, DL.mLenScr, DL.mWell, DL.mT, DL.mTAnd, DL.mTOr, DL.mTNot, DL.mTYes, DL.mgName, DL.mgNil, DL.mgCons, DL.mgTup, DL.miSeq, DL.miRng1, DL.miRng2, DL.mRaise, DL.mApp, DL.mFor, DL.mLc, DL.mrLc, DL.sget, DL.sset, DL.slots0, DL.slotsW, DL.endP, DL.endW, DL.endL, DL.wF, DL.fz_va, DL.fz_own, List.length_cons, List.length_nil, List.map_cons, List.map_nil, List.replicate_succ, List.replicate_zero, Nat.reduceAdd, Nat.reduceSub, Nat.reduceLeDiff, List.cons_append, List.nil_append, Nat.zero_add, Nat.add_zero, Nat.sub_self, Option.some.injEq, PyData.bool.injEq, PyData.int.injEq, PyData.tuple.injEq, PyData.list.injEq, PyData.str.injEq, List.cons.injEq, DL.S.va.injEq, DL.S.own.injEq, DL.S.well.injEq, DL.S.scr.injEq, and_true, true_and, exists_eq_left', exists_eq_left, exists_eq_right, exists_eq_right', exists_and_left, exists_and_right, exists_eq, exists_eq', reduceCtorEq, false_and, and_false, exists_const, if_true, if_false, Bool.false_eq_true, reduceIte, Bool.not_true, Bool.not_false, DL.bIsi, List.any_cons, List.any_nil, Bool.or_false, Bool.or_true, Bool.false_or, Bool.true_or, DL.isK, DL.opAdd_i, DL.opSub_i, DL.opMul_i, DL.opMod_i, DL.opFdiv_i, DL.opPow_i, DL.opLt_i, DL.opLe_i, DL.opGt_i, DL.opGe_i, DL.opEq_int, DL.opNe_int, DL.opEq_str, DL.opNe_str, DL.opIsN_n, DL.opNotN_n, DL.isN, DL.opIsB_b, DL.opNotB_b, DL.opNeg_i, DL.bAbs_i, DL.bMax_i, DL.bMin_i, DL.bInt_i, DL.bGcd_i, DL.bLen_l, DL.bLen_t, DL.opAdd_t, DL.opAdd_l, DL.opIx_l, DL.opIx_t, DL.opSl_t, DL.opSl_l, DL.opRev_t, DL.opRev_l, DL.bList_l, DL.bList_t, DL.bTup_l, DL.bTup_t, DL.atI0, DL.atI1, DL.atI2, DL.atI3]
    by_cases h1 : 1 ≤ a
    · rw [if_pos (by simpa using h1)]
      simpa [isTab, h1] using q
    · rw [if_neg (by simpa using h1)]
      simpa [isTab, h1] using q
section
variable {P : Program} {w : World} {K : PySem.W.Frag} {mg : Str → Option Value} {base : Heap} {CN : String → Option Addr}
theorem ok_is_table {f : Addr} {fd : FuncData} (F : Fun K "is_table" "is_table" s_is_table f fd) (g : G K mg CN) (c_are_whole : CalP P w K mg base CN 2 "are_whole" D_are_whole) : FnG P w K mg base 3 f fd ["value"] (spP K CN D_is_table) := by
  have sc := sc_is_table
  exact fun_okP (m := m_is_table) F sc (by decide) len_is_table (fun cdv A outer s H E C W hw hr tk =>
    (pds_one (pds_ret (pdr_of (pd_and (pd_call c_are_whole hr (by decide) tk (pda_cons (dv 0) (pda_cons pd_int pda_nil))) (pd_and (pd_cmp op_ge rl_cmpI (pd_ix ix_seq rl_ix (dv 0) pd_int) pd_int (nomark _)) (pd_one (pd_cmp op_ge rl_cmpI (pd_ix ix_seq rl_ix (dv 0) pd_int) pd_int (nomark _))))))))) rd_is_table
end
end LW
namespace LW
open PySem PySem.Spec PyProof.Rows L2 DL
def m_check_table (W : WD) : MS :=
  mIf (mTNot (mT (mCall D_is_table W (mCons (mVar 0) (mNil))))) (mRaise "InvalidTable" W) (mNext)
def D_check_table : PSpec := fun ds Q E => ∃ d, ds = [d] ∧ (isTab d = true → Q (.va .none)) ∧ (isTab d = false → E "InvalidTable")
theorem len_check_table : ∀ ds Q E, D_check_table ds Q E → ds.length = 1 := by
  rintro _ Q E ⟨d, rfl, _⟩
  rfl
theorem rd_check_table : ∀ ds Q E, D_check_table ds Q E → m_check_table (fun c _ => E c) (endP Q) (slots0 1 ds) := by
  rintro _ Q E ⟨d, rfl, q1, q2⟩
  unfold m_check_table
  simp only [DL.mSeq, DL.mAsg, DL.mAsgR, DL.mAsgM, DL.mrs, DL.ssets, DL.mIf, DL.mRet, DL.mRetN, DL.mrOf, DL.mrLst, DL.mrCat, DL.mrCall, DL.mDrop, DL.mNext, DL.mBreak, DL.mCont, DL.mC, DL.mVar, DL.mOp2, DL.mOp1, DL.mAnd, DL.mOr, DL.mNot, DL.mIfE, DL.mChain, DL.mNil, DL.mCons, DL.mTup, DL.mLst, DL.mCallB, DL.mDict0, DL.mPart, DL.mNoPart, DL.mSl, DL.mCall, DL.mCallK, DL.mCallW, DL.mLenScr, DL.mWell, DL.mT, DL.mTAnd, DL.mTOr, DL.mTNot, DL.mTYes, DL.mgName, DL.mgNil, DL.mgCons, DL.mgTup, DL.miSeq, DL.miRng1, DL.miRng2, DL.mRaise, DL.mApp, DL.mFor, DL.mLc, DL.mrLc, DL.sget, DL.sset, DL.slots0, DL.slotsW, DL.endP, DL.endW, DL.endL, DL.wF, DL.fz_va, DL.fz_own, List.length_cons, List.length_nil, List.map_cons, List.map_nil, List.replicate_succ, List.replicate_zero, Nat.reduceAdd, Nat.reduceSub, Nat.reduceLeDiff, List.cons_append, List.nil_append, Nat.zero_add, Nat.add_zero, Nat.sub_self, Option.some.injEq, PyData.bool.injEq, PyData.int.injEq, PyData.tuple.injEq, PyData.list.injEq, PyData.str.injEq, List.cons.injEq, DL.S.va.injEq, DL.S.own.injEq, DL.S.well.injEq, DL.S.scr.injEq, and_true, true_and, exists_eq_left', exists_eq_left, exists_eq_right, exists_eq_right', exists_and_left, exists_and_right, exists_eq, exists_eq', reduceCtorEq, false_and, and_false, exists_const, if_true, if_false, Bool.false_eq_true, reduceIte, Bool.not_true, Bool.not_false, DL.bIsi, List.any_cons, List.any_nil, Bool.or_false, Bool.or_true, Bool.false_or, Bool.true_or, DL.isK, DL.opAdd_i, DL.opSub_i, DL.opMul_i, DL.opMod_i, DL.opFdiv_i, DL.opPow_i, DL.opLt_i, DL.opLe_i, DL.opGt_i, DL.opGe_i, DL.opEq_int, DL.opNe_int, DL.opEq_str, DL.opNe_str, DL.opIsN_n, DL.opNotN_n, DL.isN, DL.opIsB_b, DL.opNotB_b, DL.opNeg_i, DL.bAbs_i, DL.bMax_i, DL.bMin_i, DL.bInt_i, DL.bGcd_i, DL.bLen_l, DL.bLen_t, DL.opAdd_t, DL.opAdd_l, DL.opIx_l, DL.opIx_t, DL.opSl_t, DL.opSl_l, DL.opRev_t, DL.opRev_l, DL.bList_l, DL.bList_t, DL.bTup_l, DL.bTup_t, DL.atI0, DL.atI1, DL.atI2, DL.atI3]
  refine ⟨d, rfl, _, rfl, _, rfl, ?_⟩
  cases h : isTab d with
  | false => exact q2 h
  | true => exact q1 h
section
variable {P : Program} {w : World} {K : PySem.W.Frag} {mg : Str → Option Value} {base : Heap} {CN : String → Option Addr}
theorem ok_check_table {f : Addr} {fd : FuncData} (F : Fun K "check_table" "check_table" s_check_table f fd) (g : G K mg CN) (c_is_table : CalP P w K mg base CN 3 "is_table" D_is_table) : FnG P w K mg base 4 f fd ["table"] (spP K CN D_check_table) := by
  obtain ⟨e_InvalidTable, n_InvalidTable, t_InvalidTable⟩ := g.x_InvalidTable
  have sc := sc_check_table
  exact fun_okP (m := m_check_table) F sc (by decide) len_check_table (fun cdv A outer s H E C W hw hr tk =>
    (pds_one (pds_if (pdt_not (pdt_val (pd_call c_is_table hr (by decide) tk (pda_cons (dv 0) pda_nil)))) (pds_one (pds_raise rfl tk t_InvalidTable n_InvalidTable)) pds_nil))) rd_check_table
end
end LW
namespace LW
open PySem PySem.Spec PyProof.Rows L2 DL
def m_is_any_shot (W : WD) : MS :=
  mRet (mrOf (mAnd (mCall D_are_whole W (mCons (mVar 0) (mCons (mC (.int 4)) (mNil)))) (mAnd (mOp2 opGe (mOp2 opIx (mVar 0) (mC (.int 0))) (mC (.int 0))) (mAnd (mOp2 opGe (mOp2 opIx (mVar 0) (mC (.int 1))) (mC (.int 0))) (mOr (mOp2 opNe (mOp2 opIx (mVar 0) (mC (.int 2))) (mC (.int 0))) (mOp2 opNe (mOp2 opIx (mVar 0) (mC (.int 3))) (mC (.int 0))))))))
def isAny : PyData → Bool
  | .tuple [.int x, .int y, .int p, .int q] => decide (0 ≤ x) && decide (0 ≤ y) && (!decide (p = 0) || !decide (q = 0))
  | _ => false
def D_is_any_shot : PSpec := fun ds Q _ => ∃ d, ds = [d] ∧ Q (.va (.bool (isAny d)))
theorem len_is_any_shot : ∀ ds Q E, D_is_any_shot ds Q E → ds.length = 1 := by
  rintro _ Q E ⟨d, rfl, _⟩
  rfl
theorem rd_is_any_shot : ∀ ds Q E, D_is_any_shot ds Q E → m_is_any_shot (fun c _ => E c) (endP Q) (slots0 1 ds) := by
  rintro _ Q E ⟨d, rfl, q⟩
  unfold m_is_any_shot
  simp only [DL.mSeq, DL.mAsg, DL.mAsgR, DL.mAsgM, DL.mrs, DL.ssets, DL.mIf, DL.mRet, DL.mRetN, DL.mrOf, DL.mrLst, DL.mrCat, DL.mrCall, DL.mDrop, DL.mNext, DL.mBreak, DL.mCont, DL.mC, DL.mVar, DL.mOp2, DL.mOp1, DL.mAnd, DL.mOr, DL.mNot, DL.mIfE, DL.mChain, DL.mNil, DL.mCons, DL.mTup, DL.mLst, DL.mCallB, DL.mDict0, DL.mPart, DL.mNoPart, DL.mSl, DL.mCall, DL.mCallK, DL.mCallW, DL.mLenScr, DL.mWell, DL.mT, DL.mTAnd, DL.mTOr, DL.mTNot, DL.mTYes, DL.mgName, DL.mgNil, DL.mgCons, DL.mgTup, DL.miSeq, DL.miRng1, DL.miRng2, DL.mRaise, DL.mApp, DL.mFor, DL.mLc, DL.mrLc, DL.sget, DL.sset, DL.slots0, DL.slotsW, DL.endP, DL.endW, DL.endL, DL.wF, DL.fz_va, DL.fz_own, List.length_cons, List.length_nil, List.map_cons, List.map_nil, List.replicate_succ, List.replicate_zero, Nat.reduceAdd, Nat.reduceSub, Nat.reduceLeDiff, List.cons_append, List.nil_append, Nat.zero_add, Nat.add_zero, Nat.sub_self, Option.some.injEq, PyData.bool.injEq, PyData.int.injEq, PyData.tuple.injEq, PyData.list.injEq, PyData.str.injEq, List.cons.injEq, DL.S.va.injEq, DL.S.own.injEq, DL.S.well.injEq, DL.S.scr.injEq, and_true, true_and, exists_eq_left', exists_eq_left, exists_eq_right, exists_eq_right', exists_and_left, exists_and_right, exists_eq, exists_eq', reduceCtorEq, false_and, and_false, exists_const, if_true, if_false, Bool.false_eq_true, reduceIte, Bool.not_true, Bool.not_false, DL.bIsi, List.any_cons, List.any_nil, Bool.or_false, Bool.or_true, Bool.false_or, Bool.true_or, DL.isK, DL.opAdd_i, DL.opSub_i, DL.opMul_i, DL.opMod_i, DL.opFdiv_i, DL.opPow_i, DL.opLt_i, DL.opLe_i, DL.opGt_i, DL.opGe_i, DL.opEq_int, DL.opNe_int, DL.opEq_str, DL.opNe_str, DL.opIsN_n, DL.opNotN_n, DL.isN, DL.opIsB_b, DL.opNotB_b, DL.opNeg_i, DL.bAbs_i, DL.bMax_i, DL.bMin_i, DL.bInt_i, DL.bGcd_i, DL.bLen_l, DL.bLen_t, DL.opAdd_t, DL.opAdd_l, DL.opIx_l, DL.opIx_t, DL.opSl_t, DL.opSl_l, DL.opRev_t, DL.opRev_l, DL.bList_l, DL.bList_t, DL.bTup_l, DL.bTup_t, DL.atI0, DL.atI1, DL.atI2, DL.atI3]
  refine ⟨d, 4, rfl, by decide, _, rfl, _, rfl, ?_⟩
  cases h : areW d 4 with
  | false =>
    rw [if_neg (by decide)]
    have e : isAny d = false := by
      unfold isAny
      split
      · simp [areW, isInt] at h
      · rfl
    rwa [e] at q
  | true =>
    obtain ⟨x, y, p, r, rfl⟩ := areW4 h
    rw [if_pos rfl]
    simp only [DL.mSeq, DL.mAsg, DL.mAsgR, DL.mAsgM, DL.mrs, DL.ssets, DL.mIf, DL.mRet, DL.mRetN, DL.mrOf, DL.mrLst, DL.mrCat, DL.mrCall, DL.mDrop, DL.mNext, DL.mBreak, DL.mCont, DL.mC, DL.mVar, DL.mOp2, DL.mOp1, DL.mAnd, DL.mOr, DL.mNot, DL.mIfE, DL.mChain, DL.mNil, DL.mCons, DL.mTup, DL.mLst, DL.mCallB, DL.mDict0, DL.mPart, DL.mNoPart, DL.mSl, DL.mCall, DL.mCallK, DL.mCallW, DL.mLenScr, DL.mWell, DL.mT, DL.mTAnd, DL.mTOr, DL.mTNot, DL.mTYes, DL.mgName, DL.mgNil, DL.mgCons, DL.mgTup, DL.miSeq, DL.miRng1, DL.miRng2, DL.mRaise, DL.mApp, DL.mFor, DL.mLc, DL.mrLc, DL.sget, DL.sset, DL.slots0, DL.slotsW, DL.endP, DL.endW, DL.endL, DL.wF, DL.fz_va, DL.fz_own, List.length_cons, List.length_nil, List.map_cons, List.map_nil, List.replicate_succ, List.replicate_zero, Nat.reduceAdd, Nat.reduceSub, Nat.reduceLeDiff, List.cons_append, List.nil_append, Nat.zero_add, Nat.add_zero, Nat.sub_self, Option.some.injEq, PyData.bool.injEq, PyData.int.injEq, PyData.tuple.injEq, PyData.list.injEq, PyData.str.injEq, List.cons.injEq, DL.S.va.injEq, DL.S.own.injEq, DL.S.well.injEq, DL.S.scr.injEq, and_true, true_and, exists_eq_left', exists_eq_left, exists_eq_right, exists_eq_right', exists_and_left, exists_and_right, exists_eq, exists_eq', reduceCtorEq, false_and, and_false, exists_const, if_true, if_false, Bool.false_eq_true, reduceIte, Bool.not_true, Bool.not_false, DL.bIsi, List.any_cons, List.any_nil, Bool.or_false, Bool.or_true, Bool.false_or, Bool.true_or, DL.isK, DL.opAdd_i, DL.opSub_i, DL.opMul_i, DL.opMod_i, DL.opFdiv_i, DL.opPow_i, DL.opLt_i, DL.opLe_i, DL.opGt_i, DL.opGe_i, DL.opEq_int, DL.opNe_int, DL.opEq_str, DL.opNe_str, DL.opIsN_n, DL.opNotN_n, DL.isN, DL.opIsB_b, DL.opNotB_b, DL.opNeg_i, DL.bAbs_i, DL.bMax_i, DL.bMin_i, DL.bInt_i, DL.bGcd_i, DL.bLen_l, DL.bLen_t, DL.opAdd_t, DL.opAdd_l, DL.opIx_l, DL.opIx_t, DL.opSl_t, DL.opSl_l, DL.opRev_t, DL.opRev_l, DL.bList_l, DL.bList_t, DL.bTup_l, DL.bTup_t, DL.atI0, DL.atI1, DL.atI2, DL.atI3]
    by_cases h1 : 0 ≤ x
    · rw [if_pos (by simpa using h1)]
      by_cases h2 : 0 ≤ y
      · rw [if_pos (by simpa using h2)]
        by_cases h3 : p = 0
        · rw [if_neg (by simpa using h3)]
          simpa [isAny, h1, h2, h3] using q
        · rw [if_pos (by simpa using h3)]
          simpa [isAny, h1, h2, h3] using q
      · rw [if_neg (by simpa using h2)]
        simpa [isAny, h1, h2] using q
    · rw [if_neg (by simpa using h1)]
      simpa [isAny, h1] using q
section
variable {P : Program} {w : World} {K : PySem.W.Frag} {mg : Str → Option Value} {base : Heap} {CN : String → Option Addr}
theorem ok_is_any_shot {f : Addr} {fd : FuncData} (F : Fun K "is_any_shot" "is_any_shot" s_is_any_shot f fd) (g : G K mg CN) (c_are_whole : CalP P w K mg base CN 2 "are_whole" D_are_whole) : FnG P w K mg base 3 f fd ["value"] (spP K CN D_is_any_shot) := by
  have sc := sc_is_any_shot
  exact fun_okP (m := m_is_any_shot) F sc (by decide) len_is_any_shot (fun cdv A outer s H E C W hw hr tk =>
    (pds_one (pds_ret (pdr_of (pd_and (pd_call c_are_whole hr (by decide) tk (pda_cons (dv 0) (pda_cons pd_int pda_nil))) (pd_and (pd_cmp op_ge rl_cmpI (pd_ix ix_seq rl_ix (dv 0) pd_int) pd_int (nomark _)) (pd_and (pd_cmp op_ge rl_cmpI (pd_ix ix_seq rl_ix (dv 0) pd_int) pd_int (nomark _)) (pd_one (pd_or (pd_cmp (or_neD (RoomG.u64 hr)) rl_ne (pd_ix ix_seq rl_ix (dv 0) pd_int) pd_int (nomark _)) (pd_one (pd_cmp (or_neD (RoomG.u64 hr)) rl_ne (pd_ix ix_seq rl_ix (dv 0) pd_int) pd_int (nomark _)))))))))))) rd_is_any_shot
end
end LW
namespace LW
open PySem PySem.Spec PyProof.Rows L2 DL
def m_is_shot (W : WD) : MS :=
  mSeq (mDrop (mCall D_check_table W (mCons (mVar 0) (mNil))))
  (mRet (mrOf (mAnd (mCall D_is_any_shot W (mCons (mVar 1) (mNil))) (mAnd (mOp2 opLe (mOp2 opIx (mVar 1) (mC (.int 0))) (mOp2 opIx (mVar 0) (mC (.int 0)))) (mOp2 opLe (mOp2 opIx (mVar 1) (mC (.int 1))) (mOp2 opIx (mVar 0) (mC (.int 1))))))))
def isShot : PyData → PyData → Bool
  | .tuple [.int a, .int b], .tuple [.int x, .int y, .int p, .int q] => decide (0 ≤ x) && decide (0 ≤ y) && (!decide (p = 0) || !decide (q = 0)) && decide (x ≤ a) && decide (y ≤ b)
  | _, _ => false
theorem tab_inv {d : PyData} (h : isTab d = true) : ∃ a b, d = .tuple [.int a, .int b] ∧ 1 ≤ a ∧ 1 ≤ b := by
  unfold isTab at h
  split at h
  · rename_i a b
    simp only [Bool.and_eq_true, decide_eq_true_eq] at h
    exact ⟨a, b, rfl, h.1, h.2⟩
  · cases h
theorem any_inv {d : PyData} (h : isAny d = true) : ∃ x y p q, d = .tuple [.int x, .int y, .int p, .int q] ∧ 0 ≤ x ∧ 0 ≤ y ∧ (p ≠ 0 ∨ q ≠ 0) := by
  unfold isAny at h
  split at h
  · rename_i x y p q
    simp only [Bool.and_eq_true, Bool.or_eq_true, decide_eq_true_eq, Bool.not_eq_true', decide_eq_false_iff_not] at h
    exact ⟨x, y, p, q, rfl, h.1.1, h.1.2, h.2⟩
  · cases h
theorem shot_any {t d : PyData} (h : isAny d = false) : isShot t d = false := by
  unfold isShot
  split
  · simp only [isAny] at h
    simp only [h, Bool.false_and]
  · rfl
def D_is_shot : PSpec := fun ds Q E => ∃ t v, ds = [t, v] ∧ (isTab t = false → E "InvalidTable") ∧ (isTab t = true → Q (.va (.bool (isShot t v))))
theorem len_is_shot : ∀ ds Q E, D_is_shot ds Q E → ds.length = 2 := by
  rintro _ Q E ⟨t, d, rfl, _⟩
  rfl
theorem rd_is_shot : ∀ ds Q E, D_is_shot ds Q E → m_is_shot (fun c _ => E c) (endP Q) (slots0 2 ds) := by
  rintro _ Q E ⟨t, d, rfl, q1, q2⟩
  unfold m_is_shot
  simp only [DL.mSeq, DL.mAsg, DL.mAsgR, DL.mAsgM, DL.mrs, DL.ssets, DL.mIf, DL.mRet, DL.mRetN, DL.mrOf, DL.mrLst, DL.mrCat, DL.mrCall, DL.mDrop, DL.mNext, DL.mBreak, DL.mCont, DL.mC, DL.mVar, DL.mOp2, DL.mOp1, DL.mAnd, DL.mOr, DL.mNot, DL.mIfE, DL.mChain, DL.mNil, DL.mCons, DL.mTup, DL.mLst, DL.mCallB, DL.mDict0, DL.mPart, DL.mNoPart, DL.mSl, DL.mCall, DL.mCallK, DL.mCallW, DL.mLenScr, DL.mWell, DL.mT, DL.mTAnd, DL.mTOr, DL.mTNot, DL.mTYes, DL.mgName, DL.mgNil, DL.mgCons, DL.mgTup, DL.miSeq, DL.miRng1, DL.miRng2, DL.mRaise, DL.mApp, DL.mFor, DL.mLc, DL.mrLc, DL.sget, DL.sset, DL.slots0, DL.slotsW, DL.endP, DL.endW, DL.endL, DL.wF, DL.fz_va, DL.fz_own, List.length_cons, List.length_nil, List.map_cons, List.map_nil, List.replicate_succ, List.replicate_zero, Nat.reduceAdd, Nat.reduceSub, Nat.reduceLeDiff, List.cons_append, List.nil_append, Nat.zero_add, Nat.add_zero, Nat.sub_self, Option.some.injEq, PyData.bool.injEq, PyData.int.injEq, PyData.tuple.injEq, PyData.list.injEq, PyData.str.injEq, List.cons.injEq, DL.S.va.injEq, DL.S.own.injEq, DL.S.well.injEq, DL.S.scr.injEq, and_true, true_and, exists_eq_left', exists_eq_left, exists_eq_right, exists_eq_right', exists_and_left, exists_and_right, exists_eq, exists_eq', reduceCtorEq, false_and, and_false, exists_const, if_true, if_false, Bool.false_eq_true, reduceIte, Bool.not_true, Bool.not_false, DL.bIsi, List.any_cons, List.any_nil, Bool.or_false, Bool.or_true, Bool.false_or, Bool.true_or, DL.isK, DL.opAdd_i, DL.opSub_i, DL.opMul_i, DL.opMod_i, DL.opFdiv_i, DL.opPow_i, DL.opLt_i, DL.opLe_i, DL.opGt_i, DL.opGe_i, DL.opEq_int, DL.opNe_int, DL.opEq_str, DL.opNe_str, DL.opIsN_n, DL.opNotN_n, DL.isN, DL.opIsB_b, DL.opNotB_b, DL.opNeg_i, DL.bAbs_i, DL.bMax_i, DL.bMin_i, DL.bInt_i, DL.bGcd_i, DL.bLen_l, DL.bLen_t, DL.opAdd_t, DL.opAdd_l, DL.opIx_l, DL.opIx_t, DL.opSl_t, DL.opSl_l, DL.opRev_t, DL.opRev_l, DL.bList_l, DL.bList_t, DL.bTup_l, DL.bTup_t, DL.atI0, DL.atI1, DL.atI2, DL.atI3]
  refine ⟨t, rfl, fun ht => ⟨⟨_, rfl⟩, ?_⟩, q1⟩
  have q := q2 ht
  obtain ⟨a, b, rfl, ha, hb⟩ := tab_inv ht
  refine ⟨d, rfl, _, rfl, _, rfl, ?_⟩
  cases h : isAny d with
  | false =>
    rw [if_neg (by decide)]
    have e : isShot (.tuple [.int a, .int b]) d = false := shot_any h
    rwa [e] at q
  | true =>
    obtain ⟨x, y, p, r, rfl, _⟩ := any_inv h
    rw [if_pos rfl]
    simp only [DL.mSeq, DL.mAsg, DL.mAsgR, DL.mAsgM, DL.mrs, DL.ssets, DL.mIf, DL.mRet, DL.mRetN, DL.mrOf, DL.mrLst, DL.mrCat, DL.mrCall, DL.mDrop, DL.mNext, DL.mBreak, DL.mCont, DL.mC, DL.mVar, DL.mOp2, DL.mOp1, DL.mAnd, DL.mOr, DL.mNot, DL.mIfE, DL.mChain, DL.mNil, DL.mCons, DL.mTup, DL.mLst, DL.mCallB, DL.mDict0, DL.mPart, DL.mNoPart, DL.mSl, DL.mCall, DL.mCallK, DL.mCallW, DL.mLenScr, DL.mWell, DL.mT, DL.mTAnd, DL.mTOr, DL.mTNot, DL.mTYes, DL.mgName, DL.mgNil, DL.mgCons, DL.mgTup, DL.miSeq, DL.miRng1, DL.miRng2, DL.mRaise, DL.mApp, DL.mFor, DL.mLc, DL.mrLc, DL.sget, DL.sset, DL.slots0, DL.slotsW, DL.endP, DL.endW, DL.endL, DL.wF, DL.fz_va, DL.fz_own, List.length_cons, List.length_nil, List.map_cons, List.map_nil, List.replicate_succ, List.replicate_zero, Nat.reduceAdd, Nat.reduceSub, Nat.reduceLeDiff, List.cons_append, List.nil_append, Nat.zero_add, Nat.add_zero, Nat.sub_self, Option.some.injEq, PyData.bool.injEq, PyData.int.injEq, PyData.tuple.injEq, PyData.list.injEq, PyData.str.injEq, List.cons.injEq, DL.S.va.injEq, DL.S.own.injEq, DL.S.well.injEq, DL.S.scr.injEq, and_true, true_and, exists_eq_left', exists_eq_left, exists_eq_right, exists_eq_right', exists_and_left, exists_and_right, exists_eq, exists_eq', reduceCtorEq, false_and, and_false, exists_const, if_true, if_false, Bool.false_eq_true, reduceIte, Bool.not_true, Bool.not_false, DL.bIsi, List.any_cons, List.any_nil, Bool.or_false, Bool.or_true, Bool.false_or, Bool.true_or, DL.isK, DL.opAdd_i, DL.opSub_i, DL.opMul_i, DL.opMod_i, DL.opFdiv_i, DL.opPow_i, DL.opLt_i, DL.opLe_i, DL.opGt_i, DL.opGe_i, DL.opEq_int, DL.opNe_int, DL.opEq_str, DL.opNe_str, DL.opIsN_n, DL.opNotN_n, DL.isN, DL.opIsB_b, DL.opNotB_b, DL.opNeg_i, DL.bAbs_i, DL.bMax_i, DL.bMin_i, DL.bInt_i, DL.bGcd_i, DL.bLen_l, DL.bLen_t, DL.opAdd_t, DL.opAdd_l, DL.opIx_l, DL.opIx_t, DL.opSl_t, DL.opSl_l, DL.opRev_t, DL.opRev_l, DL.bList_l, DL.bList_t, DL.bTup_l, DL.bTup_t, DL.atI0, DL.atI1, DL.atI2, DL.atI3]
    have h' := h
    simp only [isAny] at h'
    by_cases h1 : x ≤ a
    · rw [if_pos (by simpa using h1)]
      simp only [isShot] at q
      rw [h'] at q
      simpa [h1] using q
    · rw [if_neg (by simpa using h1)]
      simp only [isShot] at q
      rw [h'] at q
      simpa [h1] using q
theorem shot_inv {t v : PyData} (h : isShot t v = true) : ∃ a b x y p q, t = .tuple [.int a, .int b] ∧ v = .tuple [.int x, .int y, .int p, .int q] ∧ 0 ≤ x ∧ x ≤ a ∧ 0 ≤ y ∧ y ≤ b ∧ (p ≠ 0 ∨ q ≠ 0) := by
  unfold isShot at h
  split at h
  · rename_i a b x y p q
    simp only [Bool.and_eq_true, Bool.or_eq_true, decide_eq_true_eq, Bool.not_eq_true', decide_eq_false_iff_not] at h
    exact ⟨a, b, x, y, p, q, rfl, rfl, h.1.1.1.1, h.1.2, h.1.1.1.2, h.2, h.1.1.2⟩
  · cases h
def szD : PyData → Prop
  | .tuple [.int a, .int b] => sz 1000 a ∧ sz 1000 b
  | .tuple [.int a, .int b, .int c, .int d] => sz 1000 a ∧ sz 1000 b ∧ sz 1000 c ∧ sz 1000 d
  | _ => True
section
variable {P : Program} {w : World} {K : PySem.W.Frag} {mg : Str → Option Value} {base : Heap} {CN : String → Option Addr}
theorem ok_is_shot {f : Addr} {fd : FuncData} (F : Fun K "is_shot" "is_shot" s_is_shot f fd) (g : G K mg CN) (c_check_table : CalP P w K mg base CN 4 "check_table" D_check_table) (c_is_any_shot : CalP P w K mg base CN 3 "is_any_shot" D_is_any_shot) : FnG P w K mg base 5 f fd ["table", "value"] (spP K CN D_is_shot) := by
  have sc := sc_is_shot
  exact fun_okP (m := m_is_shot) F sc (by decide) len_is_shot (fun cdv A outer s H E C W hw hr tk =>
    (pds_cons (pds_drop (pd_call c_check_table hr (by decide) tk (pda_cons (dv 0) pda_nil)))
    (pds_one (pds_ret (pdr_of (pd_and (pd_call c_is_any_shot hr (by decide) tk (pda_cons (dv 1) pda_nil)) (pd_and (pd_cmp op_le rl_cmpI (pd_ix ix_seq rl_ix (dv 1) pd_int) (pd_ix ix_seq rl_ix (dv 0) pd_int) (nomark _)) (pd_one (pd_cmp op_le rl_cmpI (pd_ix ix_seq rl_ix (dv 1) pd_int) (pd_ix ix_seq rl_ix (dv 0) pd_int) (nomark _)))))))))) rd_is_shot
end
end LW
namespace LW
open PySem PySem.Spec PyProof.Rows L2 DL
def m_is_fraction (W : WD) : MS :=
  mRet (mrOf (mAnd (mCall D_are_whole W (mCons (mVar 0) (mCons (mC (.int 2)) (mNil)))) (mAnd (mOp2 opGe (mOp2 opIx (mVar 0) (mC (.int 1))) (mC (.int 1))) (mOp2 opEq (mCallB bGcd (mCons (mOp2 opIx (mVar 0) (mC (.int 0))) (mCons (mOp2 opIx (mVar 0) (mC (.int 1))) (mNil)))) (mC (.int 1))))))
def isFrac : PyData → Bool
  | .tuple [.int a, .int b] => decide (1 ≤ b) && (Nat.gcd a.natAbs b.natAbs == 1)
  | _ => false
def D_is_fraction : PSpec := fun ds Q _ => ∃ d, ds = [d] ∧ Q (.va (.bool (isFrac d)))
theorem len_is_fraction : ∀ ds Q E, D_is_fraction ds Q E → ds.length = 1 := by
  rintro _ Q E ⟨d, rfl, _⟩
  rfl
theorem rd_is_fraction : ∀ ds Q E, D_is_fraction ds Q E → m_is_fraction (fun c _ => E c) (endP Q) (slots0 1 ds) := by
  rintro _ Q E ⟨d, rfl, q⟩
  unfold m_is_fraction
  simp only [DL.mSeq, DL.mAsg, DL.mAsgR, DL.mAsgM, DL.mrs, DL.ssets, DL.mIf, DL.mRet, DL.mRetN, DL.mrOf, DL.mrLst, DL.mrCat, DL.mrCall, DL.mDrop, DL.mNext, DL.mBreak, DL.mCont, DL.mC, DL.mVar, DL.mOp2, DL.mOp1, DL.mAnd, DL.mOr, DL.mNot, DL.mIfE, DL.mChain, DL.mNil, DL.mCons, DL.mTup, DL.mLst, DL.mCallB, DL.mDict0, DL.mPart, DL.mNoPart, DL.mSl, DL.mCall, DL.mCallK, DL.mCallW, DL.mLenScr, DL.mWell, DL.mT, DL.mTAnd, DL.mTOr, DL.mTNot, DL.mTYes, DL.mgName, DL.mgNil, DL.mgCons, DL.mgTup, DL.miSeq, DL.miRng1, DL.miRng2, DL.mRaise, DL.mApp, DL.mFor, DL.mLc, DL.mrLc, DL.sget, DL.sset, DL.slots0, DL.slotsW, DL.endP, DL.endW, DL.endL, DL.wF, DL.fz_va, DL.fz_own, List.length_cons, List.length_nil, List.map_cons, List.map_nil, List.replicate_succ, List.replicate_zero, Nat.reduceAdd, Nat.reduceSub, Nat.reduceLeDiff, List.cons_append, List.nil_append, Nat.zero_add, Nat.add_zero, Nat.sub_self, Option.some.injEq, PyData.bool.injEq, PyData.int.injEq, PyData.tuple.injEq, PyData.list.injEq, PyData.str.injEq, List.cons.injEq, DL.S.va.injEq, DL.S.own.injEq, DL.S.well.injEq, DL.S.scr.injEq, and_true, true_and, exists_eq_left', exists_eq_left, exists_eq_right, exists_eq_right', exists_and_left, exists_and_right, exists_eq, exists_eq', reduceCtorEq, false_and, and_false, exists_const, if_true, if_false, Bool.false_eq_true, reduceIte, Bool.not_true, Bool.not_false, DL.bIsi, List.any_cons, List.any_nil, Bool.or_false, Bool.or_true, Bool.false_or, Bool.true_or, DL.isK, DL.opAdd_i, DL.opSub_i, DL.opMul_i, DL.opMod_i, DL.opFdiv_i, DL.opPow_i, DL.opLt_i, DL.opLe_i, DL.opGt_i, DL.opGe_i, DL.opEq_int, DL.opNe_int, DL.opEq_str, DL.opNe_str, DL.opIsN_n, DL.opNotN_n, DL.isN, DL.opIsB_b, DL.opNotB_b, DL.opNeg_i, DL.bAbs_i, DL.bMax_i, DL.bMin_i, DL.bInt_i, DL.bGcd_i, DL.bLen_l, DL.bLen_t, DL.opAdd_t, DL.opAdd_l, DL.opIx_l, DL.opIx_t, DL.opSl_t, DL.opSl_l, DL.opRev_t, DL.opRev_l, DL.bList_l, DL.bList_t, DL.bTup_l, DL.bTup_t, DL.atI0, DL.atI1, DL.atI2, DL.atI3]
  refine ⟨d, 2, rfl, by decide, _, rfl, _, rfl, ?_⟩
  cases h : areW d 2 with
  | false =>
    rw [if_neg (by decide)]
    have e : isFrac d = false := by
      unfold isFrac
      split
      · simp [areW, isInt] at h
      · rfl
    rwa [e] at q
  | true =>
    obtain ⟨a, b, rfl⟩ := areW2 h
    rw [if_pos rfl]
    simp only [DL.mSeq, DL.mAsg, DL.mAsgR, DL.mAsgM, DL.mrs, DL.ssets, DL.mIf, DL.mRet, DL.mRetN, DL.mrOf, DL.mrLst, DL.mrCat, DL.mrCall, DL.mDrop, DL.mNext, DL.mBreak, DL.mCont, DL.mC, DL.mVar, DL.mOp2, DL.mOp1, DL.mAnd, DL.mOr, DL.mNot, DL.mIfE, DL.mChain, DL.mNil, DL.mCons, DL.mTup, DL.mLst, DL.mCallB, DL.mDict0, DL.mPart, DL.mNoPart, DL.mSl, DL.mCall, DL.mCallK, DL.mCallW, DL.mLenScr, DL.mWell, DL.mT, DL.mTAnd, DL.mTOr, DL.mTNot, DL.mTYes, DL.mgName, DL.mgNil, DL.mgCons, DL.mgTup, DL.miSeq, DL.miRng1, DL.miRng2, DL.mRaise, DL.mApp, DL.mFor, DL.mLc, DL.mrLc, DL.sget, DL.sset, DL.slots0, DL.slotsW, DL.endP, DL.endW, DL.endL, DL.wF, DL.fz_va, DL.fz_own, List.length_cons, List.length_nil, List.map_cons, List.map_nil, List.replicate_succ, List.replicate_zero, Nat.reduceAdd, Nat.reduceSub, Nat.reduceLeDiff, List.cons_append, List.nil_append, Nat.zero_add, Nat.add_zero, Nat.sub_self, Option.some.injEq, PyData.bool.injEq, PyData.int.injEq, PyData.tuple.injEq, PyData.list.injEq, PyData.str.injEq, List.cons.injEq, DL.S.va.injEq, DL.S.own.injEq, DL.S.well.injEq, DL.S.scr.injEq, and_true, true_and, exists_eq_left', exists_eq_left, exists_eq_right, exists_eq_right', exists_and_left, exists_and_right, exists_eq, exists_eq', reduceCtorEq, false_and, and_false, exists_const, if_true, if_false, Bool.false_eq_true, reduceIte, Bool.not_true, Bool.not_false, DL.bIsi, List.any_cons, List.any_nil, Bool.or_false, Bool.or_true, Bool.false_or, Bool.true_or, DL.isK, DL.opAdd_i, DL.opSub_i, DL.opMul_i, DL.opMod_i, DL.opFdiv_i, DL.opPow_i, DL.opLt_i, DL.opLe_i, DL.opGt_i, DL.opGe_i, DL.opEq_int, DL.opNe_int, DL.opEq_str, DL.opNe_str, DL.opIsN_n, DL.opNotN_n, DL.isN, DL.opIsB_b, DL.opNotB_b, DL.opNeg_i, DL.bAbs_i, DL.bMax_i, DL.bMin_i, DL.bInt_i, DL.bGcd_i, DL.bLen_l, DL.bLen_t, DL.opAdd_t, DL.opAdd_l, DL.opIx_l, DL.opIx_t, DL.opSl_t, DL.opSl_l, DL.opRev_t, DL.opRev_l, DL.bList_l, DL.bList_t, DL.bTup_l, DL.bTup_t, DL.atI0, DL.atI1, DL.atI2, DL.atI3]
    by_cases h1 : 1 ≤ b
    · rw [if_pos (by simpa using h1)]
      have e : ∀ g : Nat, decide (((g : Nat) : Int) = 1) = (g == 1) := fun g => by
        by_cases z : g = 1
        · subst z; rfl
        · rw [decide_eq_false (by omega), beq_false_of_ne z]
      rw [e]
      have q' : Q (.va (.bool (decide (1 ≤ b) && (Nat.gcd a.natAbs b.natAbs == 1)))) := q
      rw [decide_eq_true h1, Bool.true_and] at q'
      exact q'
    · rw [if_neg (by simpa using h1)]
      simpa [isFrac, h1] using q
theorem frac_inv {d : PyData} (h : isFrac d = true) : ∃ n m, d = .tuple [.int n, .int m] ∧ 1 ≤ m ∧ Nat.gcd n.natAbs m.natAbs = 1 := by
  unfold isFrac at h
  split at h
  · rename_i a b
    simp only [Bool.and_eq_true, decide_eq_true_eq, beq_iff_eq] at h
    exact ⟨a, b, rfl, h.1, h.2⟩
  · cases h
section
variable {P : Program} {w : World} {K : PySem.W.Frag} {mg : Str → Option Value} {base : Heap} {CN : String → Option Addr}
theorem ok_is_fraction {f : Addr} {fd : FuncData} (F : Fun K "is_fraction" "is_fraction" s_is_fraction f fd) (g : G K mg CN) (c_are_whole : CalP P w K mg base CN 2 "are_whole" D_are_whole) : FnG P w K mg base 3 f fd ["value"] (spP K CN D_is_fraction) := by
  have sc := sc_is_fraction
  exact fun_okP (m := m_is_fraction) F sc (by decide) len_is_fraction (fun cdv A outer s H E C W hw hr tk =>
    (pds_one (pds_ret (pdr_of (pd_and (pd_call c_are_whole hr (by decide) tk (pda_cons (dv 0) (pda_cons pd_int pda_nil))) (pd_and (pd_cmp op_ge rl_cmpI (pd_ix ix_seq rl_ix (dv 0) pd_int) pd_int (nomark _)) (pd_one (pd_cmp (or_eqD (RoomG.u64 hr)) rl_eq (pd_gcd g.b_gcd (pda_cons (pd_ix ix_seq rl_ix (dv 0) pd_int) (pda_cons (pd_ix ix_seq rl_ix (dv 0) pd_int) pda_nil))) pd_int (nomark _))))))))) rd_is_fraction
end
end LW
namespace LW
open PySem PySem.Spec PyProof.Rows L2 DL
def m__fold (W : WD) : MS :=
  mSeq (mAsg (mVar 1) (mgTup 2 (mgCons (mgName 2) (mgCons (mgName 3) (mgNil)))))
  (mSeq (mAsg (mOp2 opMod (mVar 2) (mOp2 opMul (mOp2 opMul (mC (.int 2)) (mVar 0)) (mVar 3))) (mgName 4))
  (mSeq (mIf (mT (mOp2 opLe (mVar 4) (mOp2 opMul (mVar 0) (mVar 3)))) (mRet (mrOf (mTup (mCons (mVar 4) (mCons (mVar 3) (mNil)))))) (mNext))
  (mRet (mrOf (mTup (mCons (mOp2 opSub (mOp2 opMul (mOp2 opMul (mC (.int 2)) (mVar 0)) (mVar 3)) (mVar 4)) (mCons (mVar 3) (mNil))))))))
def foldD (s t b : Int) : PyData := if t % (2 * s * b) ≤ s * b then .tuple [.int (t % (2 * s * b)), .int b] else .tuple [.int (2 * s * b - t % (2 * s * b)), .int b]
def D__fold : PSpec := fun ds Q _ => ∃ s t b, ds = [.int s, .tuple [.int t, .int b]] ∧ 1 ≤ s ∧ 1 ≤ b ∧ sz 8000 s ∧ sz 8000 b ∧ Q (.va (foldD s t b))
theorem len__fold : ∀ ds Q E, D__fold ds Q E → ds.length = 2 := by
  rintro _ Q E ⟨s, t, b, rfl, _⟩
  rfl
theorem rd__fold : ∀ ds Q E, D__fold ds Q E → m__fold (fun c _ => E c) (endP Q) (slots0 5 ds) := by
  rintro _ Q E ⟨s, t, b, rfl, hs, hb, zs, zb, q⟩
  have z2 : sz 2 2 := by unfold sz; decide
  have m1 : opMul (.int 2) (.int s) = some (.int (2 * s)) := opMul_ok z2 zs (by decide)
  have m2 : opMul (.int (2 * s)) (.int b) = some (.int (2 * s * b)) := opMul_ok (sz_mul z2 zs) zb (by decide)
  have m3 : opMul (.int s) (.int b) = some (.int (s * b)) := opMul_ok zs zb (by decide)
  have p1 : 0 < s * b := Int.mul_pos (by omega) (by omega)
  have p2 : 0 < 2 * s * b := Int.mul_pos (by omega) (by omega)
  have m4 : opMod (.int t) (.int (2 * s * b)) = some (.int (t % (2 * s * b))) := opMod_ok p2
  unfold m__fold
  simp only [DL.mSeq, DL.mAsg, DL.mAsgR, DL.mAsgM, DL.mrs, DL.ssets, DL.mIf, DL.mRet, DL.mRetN, DL.mrOf, DL.mrLst, DL.mrCat, DL.mrCall, DL.mDrop, DL.mNext, DL.mBreak, DL.mCont, DL.mC, DL.mVar, DL.mOp2, DL.mOp1, DL.mAnd, DL.mOr, DL.mNot, DL.mIfE, DL.mChain, DL.mNil, DL.mCons, DL.mTup, DL.mLst, DL.mCallB, DL.mDict0, DL.mPart, DL.mNoPart, DL.mSl, DL.mCall, DL.mCallK, DL.mCallW, DL.mLenScr, DL.mWell, DL.mT, DL.mTAnd, DL.mTOr, DL.mTNot, DL.mTYes, DL.mgName, DL.mgNil_n, DL.mgCons_c, DL.mgTup_t, DL.mgTup_l, DL.miSeq, DL.miRng1, DL.miRng2, DL.mRaise, DL.mApp, DL.mFor, DL.mLc, DL.mrLc, DL.sget, DL.sset, DL.slots0, DL.slotsW, DL.endP, DL.endW, DL.endL, DL.wF, DL.fz_va, DL.fz_own, List.length_cons, List.length_nil, List.map_cons, List.map_nil, List.replicate_succ, List.replicate_zero, Nat.reduceAdd, Nat.reduceSub, Nat.reduceLeDiff, List.cons_append, List.nil_append, Nat.zero_add, Nat.add_zero, Nat.sub_self, Option.some.injEq, PyData.bool.injEq, PyData.int.injEq, PyData.tuple.injEq, PyData.list.injEq, PyData.str.injEq, List.cons.injEq, DL.S.va.injEq, DL.S.own.injEq, DL.S.well.injEq, DL.S.scr.injEq, and_true, true_and, exists_eq_left', exists_eq_left, exists_eq_right, exists_eq_right', exists_and_left, exists_and_right, exists_eq, exists_eq', reduceCtorEq, false_and, and_false, exists_const, if_true, if_false, Bool.false_eq_true, reduceIte, Bool.not_true, Bool.not_false, DL.bIsi, List.any_cons, List.any_nil, Bool.or_false, Bool.or_true, Bool.false_or, Bool.true_or, DL.isK, DL.opAdd_i, DL.opSub_i, DL.opLt_i, DL.opLe_i, DL.opGt_i, DL.opGe_i, DL.opEq_int, DL.opNe_int, DL.opEq_b, DL.opNe_b, DL.opEq_nn, beq_self_eq_true, DL.opEq_str, DL.opNe_str, DL.opIsN_n, DL.opNotN_n, DL.isN, DL.opIsB_b, DL.opNotB_b, DL.opNeg_i, DL.bAbs_i, DL.bMax_i, DL.bMin_i, DL.bInt_i, DL.bGcd_i, DL.bLen_l, DL.bLen_t, DL.opAdd_t, DL.opAdd_l, DL.opIx_l, DL.opIx_t, DL.opSl_t, DL.opSl_l, DL.opRev_t, DL.opRev_l, DL.bList_l, DL.bList_t, DL.bTup_l, DL.bTup_t, DL.atI0, DL.atI1, DL.atI2, DL.atI3, DL.items_t, DL.items_l]
  refine ⟨_, m1, _, m2, _, m4, _, m3, _, rfl, _, rfl, ?_⟩
  by_cases h : t % (2 * s * b) ≤ s * b
  · rw [if_pos (decide_eq_true h)]
    rw [foldD, if_pos h] at q
    exact q
  · rw [if_neg (by simpa using h)]
    rw [foldD, if_neg h] at q
    exact ⟨_, m1, _, m2, _, rfl, q⟩
/-- what a fold is: R behind it, as many parts of B -/
theorem fold_is {s T B : Int} (hs : 1 ≤ s) (hB : 1 ≤ B) : ∃ R k, foldD s T B = .tuple [.int R, .int B] ∧ (R = T + B * k ∨ R = -T + B * k) ∧ (R = T % (2 * s * B) ∧ T % (2 * s * B) ≤ s * B ∨ R = 2 * s * B - T % (2 * s * B) ∧ s * B < T % (2 * s * B)) := by
  have e := Int.emod_add_mul_ediv T (2 * s * B)
  unfold foldD
  by_cases h : T % (2 * s * B) ≤ s * B
  · rw [if_pos h]
    refine ⟨_, -(2 * s * (T / (2 * s * B))), rfl, .inl ?_, .inl ⟨rfl, h⟩⟩
    have : 2 * s * B * (T / (2 * s * B)) = B * (2 * s * (T / (2 * s * B))) := by simp only [Int.mul_assoc, Int.mul_comm, Int.mul_left_comm]
    rw [Int.mul_neg]
    omega
  · rw [if_neg h]
    refine ⟨_, 2 * s + 2 * s * (T / (2 * s * B)), rfl, .inr ?_, .inr ⟨rfl, by omega⟩⟩
    have e2 : 2 * s * B * (T / (2 * s * B)) = B * (2 * s * (T / (2 * s * B))) := by simp only [Int.mul_assoc, Int.mul_comm, Int.mul_left_comm]
    have e3 : 2 * s * B = B * (2 * s) := by simp only [Int.mul_assoc, Int.mul_comm, Int.mul_left_comm]
    rw [Int.mul_add]
    omega
section
variable {P : Program} {w : World} {K : PySem.W.Frag} {mg : Str → Option Value} {base : Heap} {CN : String → Option Addr}
theorem ok__fold {f : Addr} {fd : FuncData} (F : Fun K "_fold" "_fold" s__fold f fd) (g : G K mg CN)  : FnG P w K mg base 1 f fd ["side", "number"] (spP K CN D__fold) := by
  have sc := sc__fold
  exact fun_okP (m := m__fold) F sc (by decide) len__fold (fun cdv A outer s H E C W hw hr tk =>
    (pds_cons (pds_asg (ps_asg (dv 1) (pdg_tup rfl (gcons (dg 2 sc.nd) (gcons (dg 3 sc.nd) pdgs_nil)))))
    (pds_cons (pds_asg (ps_asg (pd_op op_mod rl_mod (dv 2) (pd_op or_mul rl_mul (pd_op or_mul rl_mul pd_int (dv 0)) (dv 3))) (dg 4 sc.nd)))
    (pds_cons (pds_if (pdt_cmp op_le rl_cmpI (dv 4) (pd_op or_mul rl_mul (dv 0) (dv 3)) (nomark _)) (pds_one (pds_ret (pdr_of (pd_tup (pda_cons (dv 4) (pda_cons (dv 3) pda_nil)))))) pds_nil)
    (pds_one (pds_ret (pdr_of (pd_tup (pda_cons (pd_op op_sub rl_sub (pd_op or_mul rl_mul (pd_op or_mul rl_mul pd_int (dv 0)) (dv 3)) (dv 4)) (pda_cons (dv 3) pda_nil)))))))))) rd__fold
end
end LW
namespace LW
open PySem PySem.Spec PyProof.Rows L2 DL
def m_check_time (W : WD) : MS :=
  mIf (mTNot (mT (mCall D_is_fraction W (mCons (mVar 0) (mNil))))) (mRaise "InvalidTime" W) (mNext)
def D_check_time : PSpec := fun ds Q E => ∃ d, ds = [d] ∧ (isFrac d = true → Q (.va .none)) ∧ (isFrac d = false → E "InvalidTime")
theorem len_check_time : ∀ ds Q E, D_check_time ds Q E → ds.length = 1 := by
  rintro _ Q E ⟨d, rfl, _⟩
  rfl
theorem rd_check_time : ∀ ds Q E, D_check_time ds Q E → m_check_time (fun c _ => E c) (endP Q) (slots0 1 ds) := by
  rintro _ Q E ⟨d, rfl, q1, q2⟩
  unfold m_check_time
  simp only [DL.mSeq, DL.mAsg, DL.mAsgR, DL.mAsgM, DL.mrs, DL.ssets, DL.mIf, DL.mRet, DL.mRetN, DL.mrOf, DL.mrLst, DL.mrCat, DL.mrCall, DL.mDrop, DL.mNext, DL.mBreak, DL.mCont, DL.mC, DL.mVar, DL.mOp2, DL.mOp1, DL.mAnd, DL.mOr, DL.mNot, DL.mIfE, DL.mChain, DL.mNil, DL.mCons, DL.mTup, DL.mLst, DL.mCallB, DL.mDict0, DL.mPart, DL.mNoPart, DL.mSl, DL.mCall, DL.mCallK, DL.mCallW, DL.mLenScr, DL.mWell, DL.mT, DL.mTAnd, DL.mTOr, DL.mTNot, DL.mTYes, DL.mgName, DL.mgNil, DL.mgCons, DL.mgTup, DL.miSeq, DL.miRng1, DL.miRng2, DL.mRaise, DL.mApp, DL.mFor, DL.mLc, DL.mrLc, DL.sget, DL.sset, DL.slots0, DL.slotsW, DL.endP, DL.endW, DL.endL, DL.wF, DL.fz_va, DL.fz_own, List.length_cons, List.length_nil, List.map_cons, List.map_nil, List.replicate_succ, List.replicate_zero, Nat.reduceAdd, Nat.reduceSub, Nat.reduceLeDiff, List.cons_append, List.nil_append, Nat.zero_add, Nat.add_zero, Nat.sub_self, Option.some.injEq, PyData.bool.injEq, PyData.int.injEq, PyData.tuple.injEq, PyData.list.injEq, PyData.str.injEq, List.cons.injEq, DL.S.va.injEq, DL.S.own.injEq, DL.S.well.injEq, DL.S.scr.injEq, and_true, true_and, exists_eq_left', exists_eq_left, exists_eq_right, exists_eq_right', exists_and_left, exists_and_right, exists_eq, exists_eq', reduceCtorEq, false_and, and_false, exists_const, if_true, if_false, Bool.false_eq_true, reduceIte, Bool.not_true, Bool.not_false, DL.bIsi, List.any_cons, List.any_nil, Bool.or_false, Bool.or_true, Bool.false_or, Bool.true_or, DL.isK, DL.opAdd_i, DL.opSub_i, DL.opMul_i, DL.opMod_i, DL.opFdiv_i, DL.opPow_i, DL.opLt_i, DL.opLe_i, DL.opGt_i, DL.opGe_i, DL.opEq_int, DL.opNe_int, DL.opEq_str, DL.opNe_str, DL.opIsN_n, DL.opNotN_n, DL.isN, DL.opIsB_b, DL.opNotB_b, DL.opNeg_i, DL.bAbs_i, DL.bMax_i, DL.bMin_i, DL.bInt_i, DL.bGcd_i, DL.bLen_l, DL.bLen_t, DL.opAdd_t, DL.opAdd_l, DL.opIx_l, DL.opIx_t, DL.opSl_t, DL.opSl_l, DL.opRev_t, DL.opRev_l, DL.bList_l, DL.bList_t, DL.bTup_l, DL.bTup_t, DL.atI0, DL.atI1, DL.atI2, DL.atI3]
  refine ⟨d, rfl, _, rfl, _, rfl, ?_⟩
  cases h : isFrac d with
  | false => exact q2 h
  | true => exact q1 h
section
variable {P : Program} {w : World} {K : PySem.W.Frag} {mg : Str → Option Value} {base : Heap} {CN : String → Option Addr}
theorem ok_check_time {f : Addr} {fd : FuncData} (F : Fun K "check_time" "check_time" s_check_time f fd) (g : G K mg CN) (c_is_fraction : CalP P w K mg base CN 3 "is_fraction" D_is_fraction) : FnG P w K mg base 4 f fd ["time"] (spP K CN D_check_time) := by
  obtain ⟨e_InvalidTime, n_InvalidTime, t_InvalidTime⟩ := g.x_InvalidTime
  have sc := sc_check_time
  exact fun_okP (m := m_check_time) F sc (by decide) len_check_time (fun cdv A outer s H E C W hw hr tk =>
    (pds_one (pds_if (pdt_not (pdt_val (pd_call c_is_fraction hr (by decide) tk (pda_cons (dv 0) pda_nil)))) (pds_one (pds_raise rfl tk t_InvalidTime n_InvalidTime)) pds_nil))) rd_check_time
end
end LW
namespace LW
open PySem PySem.Spec PyProof.Rows L2 DL
def m_folded (W : WD) : MS :=
  mSeq (mIf (mTOr (mTNot (mT (mCall D_is_whole W (mCons (mVar 0) (mNil))))) (mT (mOp2 opLt (mVar 0) (mC (.int 1))))) (mRaise "InvalidSide" W) (mNext))
  (mSeq (mDrop (mCall D_check_time W (mCons (mVar 1) (mNil))))
  (mRet (mrOf (mCall D__fold W (mCons (mVar 0) (mCons (mVar 1) (mNil)))))))
def D_folded : PSpec := fun ds Q E => ∃ k f, ds = [k, f] ∧ ((∀ j : Int, k = .int j → j < 1) → E "InvalidSide") ∧ (∀ j : Int, k = .int j → 1 ≤ j → isFrac f = false → E "InvalidTime") ∧
  (∀ j n m : Int, k = .int j → f = .tuple [.int n, .int m] → 1 ≤ j → isFrac f = true → sz 8000 j ∧ sz 8000 m ∧ Q (.va (foldD j n m)))
theorem len_folded : ∀ ds Q E, D_folded ds Q E → ds.length = 2 := by
  rintro _ Q E ⟨k, f, rfl, _⟩
  rfl
theorem rd_folded : ∀ ds Q E, D_folded ds Q E → m_folded (fun c _ => E c) (endP Q) (slots0 2 ds) := by
  rintro _ Q E ⟨k, f, rfl, q1, q2, q3⟩
  unfold m_folded
  simp only [DL.mSeq, DL.mAsg, DL.mAsgR, DL.mAsgM, DL.mrs, DL.ssets, DL.mIf, DL.mRet, DL.mRetN, DL.mrOf, DL.mrLst, DL.mrCat, DL.mrCall, DL.mDrop, DL.mNext, DL.mBreak, DL.mCont, DL.mC, DL.mVar, DL.mOp2, DL.mOp1, DL.mAnd, DL.mOr, DL.mNot, DL.mIfE, DL.mChain, DL.mNil, DL.mCons, DL.mTup, DL.mLst, DL.mCallB, DL.mDict0, DL.mPart, DL.mNoPart, DL.mSl, DL.mCall, DL.mCallK, DL.mCallW, DL.mLenScr, DL.mWell, DL.mT, DL.mTAnd, DL.mTOr, DL.mTNot, DL.mTYes, DL.mgName, DL.mgNil_n, DL.mgCons_c, DL.mgTup_t, DL.mgTup_l, DL.miSeq, DL.miRng1, DL.miRng2, DL.mRaise, DL.mApp, DL.mFor, DL.mLc, DL.mrLc, DL.sget, DL.sset, DL.slots0, DL.slotsW, DL.endP, DL.endW, DL.endL, DL.wF, DL.fz_va, DL.fz_own, List.length_cons, List.length_nil, List.map_cons, List.map_nil, List.replicate_succ, List.replicate_zero, Nat.reduceAdd, Nat.reduceSub, Nat.reduceLeDiff, List.cons_append, List.nil_append, Nat.zero_add, Nat.add_zero, Nat.sub_self, Option.some.injEq, PyData.bool.injEq, PyData.int.injEq, PyData.tuple.injEq, PyData.list.injEq, PyData.str.injEq, List.cons.injEq, DL.S.va.injEq, DL.S.own.injEq, DL.S.well.injEq, DL.S.scr.injEq, and_true, true_and, exists_eq_left', exists_eq_left, exists_eq_right, exists_eq_right', exists_and_left, exists_and_right, exists_eq, exists_eq', reduceCtorEq, false_and, and_false, exists_const, if_true, if_false, Bool.false_eq_true, reduceIte, Bool.not_true, Bool.not_false, DL.bIsi, List.any_cons, List.any_nil, Bool.or_false, Bool.or_true, Bool.false_or, Bool.true_or, DL.isK, DL.opAdd_i, DL.opSub_i, DL.opLt_i, DL.opLe_i, DL.opGt_i, DL.opGe_i, DL.opEq_int, DL.opNe_int, DL.opEq_b, DL.opNe_b, DL.opEq_nn, beq_self_eq_true, DL.opEq_str, DL.opNe_str, DL.opIsN_n, DL.opNotN_n, DL.isN, DL.opIsB_b, DL.opNotB_b, DL.opNeg_i, DL.bAbs_i, DL.bMax_i, DL.bMin_i, DL.bInt_i, DL.bGcd_i, DL.bLen_l, DL.bLen_t, DL.opAdd_t, DL.opAdd_l, DL.opIx_l, DL.opIx_t, DL.opSl_t, DL.opSl_l, DL.opRev_t, DL.opRev_l, DL.bList_l, DL.bList_t, DL.bTup_l, DL.bTup_t, DL.atI0, DL.atI1, DL.atI2, DL.atI3, DL.items_t, DL.items_l]
  refine ⟨k, rfl, _, rfl, _, rfl, ?_⟩
  have go : ∀ j : Int, k = .int j → 1 ≤ j → D_check_time [f] (fun r => (∃ d, fz r = some d) ∧ D__fold [k, f] (fun r => ∃ d, fz r = some d ∧ Q (.va d)) fun c => E c) fun c => E c := by
    rintro j rfl hj
    refine ⟨f, rfl, fun hf => ⟨⟨_, rfl⟩, ?_⟩, fun hf => q2 j rfl hj hf⟩
    obtain ⟨n, m, rfl, hm, -⟩ := frac_inv hf
    obtain ⟨z1, z2, q⟩ := q3 j n m rfl rfl hj hf
    exact ⟨j, n, m, rfl, hj, hm, z1, z2, _, rfl, q⟩
  cases k with
  | int j =>
    simp only [isInt]
    simp only [DL.mSeq, DL.mAsg, DL.mAsgR, DL.mAsgM, DL.mrs, DL.ssets, DL.mIf, DL.mRet, DL.mRetN, DL.mrOf, DL.mrLst, DL.mrCat, DL.mrCall, DL.mDrop, DL.mNext, DL.mBreak, DL.mCont, DL.mC, DL.mVar, DL.mOp2, DL.mOp1, DL.mAnd, DL.mOr, DL.mNot, DL.mIfE, DL.mChain, DL.mNil, DL.mCons, DL.mTup, DL.mLst, DL.mCallB, DL.mDict0, DL.mPart, DL.mNoPart, DL.mSl, DL.mCall, DL.mCallK, DL.mCallW, DL.mLenScr, DL.mWell, DL.mT, DL.mTAnd, DL.mTOr, DL.mTNot, DL.mTYes, DL.mgName, DL.mgNil_n, DL.mgCons_c, DL.mgTup_t, DL.mgTup_l, DL.miSeq, DL.miRng1, DL.miRng2, DL.mRaise, DL.mApp, DL.mFor, DL.mLc, DL.mrLc, DL.sget, DL.sset, DL.slots0, DL.slotsW, DL.endP, DL.endW, DL.endL, DL.wF, DL.fz_va, DL.fz_own, List.length_cons, List.length_nil, List.map_cons, List.map_nil, List.replicate_succ, List.replicate_zero, Nat.reduceAdd, Nat.reduceSub, Nat.reduceLeDiff, List.cons_append, List.nil_append, Nat.zero_add, Nat.add_zero, Nat.sub_self, Option.some.injEq, PyData.bool.injEq, PyData.int.injEq, PyData.tuple.injEq, PyData.list.injEq, PyData.str.injEq, List.cons.injEq, DL.S.va.injEq, DL.S.own.injEq, DL.S.well.injEq, DL.S.scr.injEq, and_true, true_and, exists_eq_left', exists_eq_left, exists_eq_right, exists_eq_right', exists_and_left, exists_and_right, exists_eq, exists_eq', reduceCtorEq, false_and, and_false, exists_const, if_true, if_false, Bool.false_eq_true, reduceIte, Bool.not_true, Bool.not_false, DL.bIsi, List.any_cons, List.any_nil, Bool.or_false, Bool.or_true, Bool.false_or, Bool.true_or, DL.isK, DL.opAdd_i, DL.opSub_i, DL.opLt_i, DL.opLe_i, DL.opGt_i, DL.opGe_i, DL.opEq_int, DL.opNe_int, DL.opEq_b, DL.opNe_b, DL.opEq_nn, beq_self_eq_true, DL.opEq_str, DL.opNe_str, DL.opIsN_n, DL.opNotN_n, DL.isN, DL.opIsB_b, DL.opNotB_b, DL.opNeg_i, DL.bAbs_i, DL.bMax_i, DL.bMin_i, DL.bInt_i, DL.bGcd_i, DL.bLen_l, DL.bLen_t, DL.opAdd_t, DL.opAdd_l, DL.opIx_l, DL.opIx_t, DL.opSl_t, DL.opSl_l, DL.opRev_t, DL.opRev_l, DL.bList_l, DL.bList_t, DL.bTup_l, DL.bTup_t, DL.atI0, DL.atI1, DL.atI2, DL.atI3, DL.items_t, DL.items_l]
    by_cases hj : j < 1
    · rw [if_pos (decide_eq_true hj)]
      exact q1 fun j' e => by cases e; exact hj
    · rw [if_neg (by simpa using hj)]
      exact go j rfl (by omega)
  | _ => exact q1 fun j' e => nomatch e
section
variable {P : Program} {w : World} {K : PySem.W.Frag} {mg : Str → Option Value} {base : Heap} {CN : String → Option Addr}
theorem ok_folded {f : Addr} {fd : FuncData} (F : Fun K "folded" "folded" s_folded f fd) (g : G K mg CN) (c__fold : CalP P w K mg base CN 1 "_fold" D__fold) (c_check_time : CalP P w K mg base CN 4 "check_time" D_check_time) (c_is_whole : CalP P w K mg base CN 1 "is_whole" D_is_whole) : FnG P w K mg base 5 f fd ["side", "number"] (spP K CN D_folded) := by
  obtain ⟨e_InvalidSide, n_InvalidSide, t_InvalidSide⟩ := g.x_InvalidSide
  have sc := sc_folded
  exact fun_okP (m := m_folded) F sc (by decide) len_folded (fun cdv A outer s H E C W hw hr tk =>
    (pds_cons (pds_if (pdt_ofw (pdw_or (pdt_not (pdt_val (pd_call c_is_whole hr (by decide) tk (pda_cons (dv 0) pda_nil)))) (pdw_or1 (pdt_cmp op_lt rl_cmpI (dv 0) pd_int (nomark _))))) (pds_one (pds_raise rfl tk t_InvalidSide n_InvalidSide)) pds_nil)
    (pds_cons (pds_drop (pd_call c_check_time hr (by decide) tk (pda_cons (dv 1) pda_nil)))
    (pds_one (pds_ret (pdr_of (pd_call c__fold hr (by decide) tk (pda_cons (dv 0) (pda_cons (dv 1) pda_nil))))))))) rd_folded
end
end LW
namespace LW
open PySem PySem.Spec PyProof.Rows L2 DL
def m_check_shot (W : WD) : MS :=
  mIf (mTNot (mT (mCall D_is_shot W (mCons (mVar 0) (mCons (mVar 1) (mNil)))))) (mRaise "InvalidShot" W) (mNext)
def D_check_shot : PSpec := fun ds Q E => ∃ t v, ds = [t, v] ∧ (isTab t = false → E "InvalidTable") ∧ (isTab t = true → isShot t v = false → E "InvalidShot") ∧ (isTab t = true → isShot t v = true → Q (.va .none))
theorem len_check_shot : ∀ ds Q E, D_check_shot ds Q E → ds.length = 2 := by
  rintro _ Q E ⟨t, v, rfl, _⟩
  rfl
theorem rd_check_shot : ∀ ds Q E, D_check_shot ds Q E → m_check_shot (fun c _ => E c) (endP Q) (slots0 2 ds) := by
  rintro _ Q E ⟨t, v, rfl, q1, q2, q3⟩
  unfold m_check_shot
  simp only [DL.mSeq, DL.mAsg, DL.mAsgR, DL.mAsgM, DL.mrs, DL.ssets, DL.mIf, DL.mRet, DL.mRetN, DL.mrOf, DL.mrLst, DL.mrCat, DL.mrCall, DL.mDrop, DL.mNext, DL.mBreak, DL.mCont, DL.mC, DL.mVar, DL.mOp2, DL.mOp1, DL.mAnd, DL.mOr, DL.mNot, DL.mIfE, DL.mChain, DL.mNil, DL.mCons, DL.mTup, DL.mLst, DL.mCallB, DL.mDict0, DL.mPart, DL.mNoPart, DL.mSl, DL.mCall, DL.mCallK, DL.mCallW, DL.mLenScr, DL.mWell, DL.mT, DL.mTAnd, DL.mTOr, DL.mTNot, DL.mTYes, DL.mgName, DL.mgNil, DL.mgCons, DL.mgTup, DL.miSeq, DL.miRng1, DL.miRng2, DL.mRaise, DL.mApp, DL.mFor, DL.mLc, DL.mrLc, DL.sget, DL.sset, DL.slots0, DL.slotsW, DL.endP, DL.endW, DL.endL, DL.wF, DL.fz_va, DL.fz_own, List.length_cons, List.length_nil, List.map_cons, List.map_nil, List.replicate_succ, List.replicate_zero, Nat.reduceAdd, Nat.reduceSub, Nat.reduceLeDiff, List.cons_append, List.nil_append, Nat.zero_add, Nat.add_zero, Nat.sub_self, Option.some.injEq, PyData.bool.injEq, PyData.int.injEq, PyData.tuple.injEq, PyData.list.injEq, PyData.str.injEq, List.cons.injEq, DL.S.va.injEq, DL.S.own.injEq, DL.S.well.injEq, DL.S.scr.injEq, and_true, true_and, exists_eq_left', exists_eq_left, exists_eq_right, exists_eq_right', exists_and_left, exists_and_right, exists_eq, exists_eq', reduceCtorEq, false_and, and_false, exists_const, if_true, if_false, Bool.false_eq_true, reduceIte, Bool.not_true, Bool.not_false, DL.bIsi, List.any_cons, List.any_nil, Bool.or_false, Bool.or_true, Bool.false_or, Bool.true_or, DL.isK, DL.opAdd_i, DL.opSub_i, DL.opMul_i, DL.opMod_i, DL.opFdiv_i, DL.opPow_i, DL.opLt_i, DL.opLe_i, DL.opGt_i, DL.opGe_i, DL.opEq_int, DL.opNe_int, DL.opEq_str, DL.opNe_str, DL.opIsN_n, DL.opNotN_n, DL.isN, DL.opIsB_b, DL.opNotB_b, DL.opNeg_i, DL.bAbs_i, DL.bMax_i, DL.bMin_i, DL.bInt_i, DL.bGcd_i, DL.bLen_l, DL.bLen_t, DL.opAdd_t, DL.opAdd_l, DL.opIx_l, DL.opIx_t, DL.opSl_t, DL.opSl_l, DL.opRev_t, DL.opRev_l, DL.bList_l, DL.bList_t, DL.bTup_l, DL.bTup_t, DL.atI0, DL.atI1, DL.atI2, DL.atI3]
  refine ⟨t, v, rfl, q1, fun ht => ⟨_, rfl, _, rfl, ?_⟩⟩
  cases h : isShot t v with
  | false => exact q2 ht h
  | true => exact q3 ht h
section
variable {P : Program} {w : World} {K : PySem.W.Frag} {mg : Str → Option Value} {base : Heap} {CN : String → Option Addr}
theorem ok_check_shot {f : Addr} {fd : FuncData} (F : Fun K "check_shot" "check_shot" s_check_shot f fd) (g : G K mg CN) (c_is_shot : CalP P w K mg base CN 5 "is_shot" D_is_shot) : FnG P w K mg base 6 f fd ["table", "shot"] (spP K CN D_check_shot) := by
  obtain ⟨e_InvalidShot, n_InvalidShot, t_InvalidShot⟩ := g.x_InvalidShot
  have sc := sc_check_shot
  exact fun_okP (m := m_check_shot) F sc (by decide) len_check_shot (fun cdv A outer s H E C W hw hr tk =>
    (pds_one (pds_if (pdt_not (pdt_val (pd_call c_is_shot hr (by decide) tk (pda_cons (dv 0) (pda_cons (dv 1) pda_nil))))) (pds_one (pds_raise rfl tk t_InvalidShot n_InvalidShot)) pds_nil))) rd_check_shot
end
end LW
namespace LW
open PySem PySem.Spec PyProof.Rows L2 DL
def m__check_all (W : WD) : MS :=
  mSeq (mDrop (mCall D_check_shot W (mCons (mVar 0) (mCons (mVar 1) (mNil)))))
  (mDrop (mCall D_check_time W (mCons (mVar 2) (mNil))))
def D__check_all : PSpec := fun ds Q E => ∃ t v f, ds = [t, v, f] ∧ (isTab t = false → E "InvalidTable") ∧ (isTab t = true → isShot t v = false → E "InvalidShot") ∧ (isTab t = true → isShot t v = true → isFrac f = false → E "InvalidTime") ∧ (isTab t = true → isShot t v = true → isFrac f = true → Q (.va .none))
theorem len__check_all : ∀ ds Q E, D__check_all ds Q E → ds.length = 3 := by
  rintro _ Q E ⟨t, v, f, rfl, _⟩
  rfl
theorem rd__check_all : ∀ ds Q E, D__check_all ds Q E → m__check_all (fun c _ => E c) (endP Q) (slots0 3 ds) := by
  rintro _ Q E ⟨t, v, f, rfl, q1, q2, q3, q4⟩
  unfold m__check_all
  simp only [DL.mSeq, DL.mAsg, DL.mAsgR, DL.mAsgM, DL.mrs, DL.ssets, DL.mIf, DL.mRet, DL.mRetN, DL.mrOf, DL.mrLst, DL.mrCat, DL.mrCall, DL.mDrop, DL.mNext, DL.mBreak, DL.mCont, DL.mC, DL.mVar, DL.mOp2, DL.mOp1, DL.mAnd, DL.mOr, DL.mNot, DL.mIfE, DL.mChain, DL.mNil, DL.mCons, DL.mTup, DL.mLst, DL.mCallB, DL.mDict0, DL.mPart, DL.mNoPart, DL.mSl, DL.mCall, DL.mCallK, DL.mCallW, DL.mLenScr, DL.mWell, DL.mT, DL.mTAnd, DL.mTOr, DL.mTNot, DL.mTYes, DL.mgName, DL.mgNil, DL.mgCons, DL.mgTup, DL.miSeq, DL.miRng1, DL.miRng2, DL.mRaise, DL.mApp, DL.mFor, DL.mLc, DL.mrLc, DL.sget, DL.sset, DL.slots0, DL.slotsW, DL.endP, DL.endW, DL.endL, DL.wF, DL.fz_va, DL.fz_own, List.length_cons, List.length_nil, List.map_cons, List.map_nil, List.replicate_succ, List.replicate_zero, Nat.reduceAdd, Nat.reduceSub, Nat.reduceLeDiff, List.cons_append, List.nil_append, Nat.zero_add, Nat.add_zero, Nat.sub_self, Option.some.injEq, PyData.bool.injEq, PyData.int.injEq, PyData.tuple.injEq, PyData.list.injEq, PyData.str.injEq, List.cons.injEq, DL.S.va.injEq, DL.S.own.injEq, DL.S.well.injEq, DL.S.scr.injEq, and_true, true_and, exists_eq_left', exists_eq_left, exists_eq_right, exists_eq_right', exists_and_left, exists_and_right, exists_eq, exists_eq', reduceCtorEq, false_and, and_false, exists_const, if_true, if_false, Bool.false_eq_true, reduceIte, Bool.not_true, Bool.not_false, DL.bIsi, List.any_cons, List.any_nil, Bool.or_false, Bool.or_true, Bool.false_or, Bool.true_or, DL.isK, DL.opAdd_i, DL.opSub_i, DL.opMul_i, DL.opMod_i, DL.opFdiv_i, DL.opPow_i, DL.opLt_i, DL.opLe_i, DL.opGt_i, DL.opGe_i, DL.opEq_int, DL.opNe_int, DL.opEq_str, DL.opNe_str, DL.opIsN_n, DL.opNotN_n, DL.isN, DL.opIsB_b, DL.opNotB_b, DL.opNeg_i, DL.bAbs_i, DL.bMax_i, DL.bMin_i, DL.bInt_i, DL.bGcd_i, DL.bLen_l, DL.bLen_t, DL.opAdd_t, DL.opAdd_l, DL.opIx_l, DL.opIx_t, DL.opSl_t, DL.opSl_l, DL.opRev_t, DL.opRev_l, DL.bList_l, DL.bList_t, DL.bTup_l, DL.bTup_t, DL.atI0, DL.atI1, DL.atI2, DL.atI3]
  exact ⟨t, v, rfl, q1, q2, fun h1 h2 => ⟨⟨_, rfl⟩, f, rfl, fun h3 => ⟨⟨_, rfl⟩, q4 h1 h2 h3⟩, fun h3 => q3 h1 h2 h3⟩⟩
section
variable {P : Program} {w : World} {K : PySem.W.Frag} {mg : Str → Option Value} {base : Heap} {CN : String → Option Addr}
theorem ok__check_all {f : Addr} {fd : FuncData} (F : Fun K "_check_all" "_check_all" s__check_all f fd) (g : G K mg CN) (c_check_shot : CalP P w K mg base CN 6 "check_shot" D_check_shot) (c_check_time : CalP P w K mg base CN 4 "check_time" D_check_time) : FnG P w K mg base 7 f fd ["table", "shot", "time"] (spP K CN D__check_all) := by
  have sc := sc__check_all
  exact fun_okP (m := m__check_all) F sc (by decide) len__check_all (fun cdv A outer s H E C W hw hr tk =>
    (pds_cons (pds_drop (pd_call c_check_shot hr (by decide) tk (pda_cons (dv 0) (pda_cons (dv 1) pda_nil))))
    (pds_one (pds_drop (pd_call c_check_time hr (by decide) tk (pda_cons (dv 2) pda_nil)))))) rd__check_all
end
end LW
namespace LW
open PySem PySem.Spec PyProof.Rows L2 DL
def m__place (W : WD) : MS :=
  mSeq (mAsg (mVar 2) (mgTup 2 (mgCons (mgName 3) (mgCons (mgName 4) (mgNil)))))
  (mRet (mrOf (mCallB bTup (mCons (mLc (miSeq (mCall D_lines_of W (mCons (mVar 0) (mCons (mVar 1) (mNil))))) (mgTup 3 (mgCons (mgName 5) (mgCons (mgName 6) (mgCons (mgName 7) (mgNil))))) (mTYes) (mCall D__fold wF (mCons (mVar 5) (mCons (mCall D_fraction_of wF (mCons (mOp2 opAdd (mOp2 opMul (mVar 6) (mVar 4)) (mOp2 opMul (mVar 7) (mVar 3))) (mCons (mVar 4) (mNil)))) (mNil)))) [5, 6, 7]) mNil))))
/-- a number behind n / m: folded, in lowest terms -/
def placeL (s a v n m : Int) : PyData := foldD s ((a * m + v * n) / (Nat.gcd (a * m + v * n).natAbs m.natAbs : Nat)) (m / (Nat.gcd (a * m + v * n).natAbs m.natAbs : Nat))
def placeN (s a v n m : Int) : PyData := placeL s (lineA v a) (lineV v) n m
def lineIn : PyData → Option PyData
  | .tuple [.int s, .int a, .int v] => some (.tuple [.int s, .int a, .int v])
  | _ => none
def placeK (n m : Int) : PyData → Option PyData
  | .tuple [.int s, .int a, .int v] => some (placeL s a v n m)
  | _ => none
def D__place : PSpec := fun ds Q _ => ∃ a b x y p q n m, ds = [.tuple [.int a, .int b], .tuple [.int x, .int y, .int p, .int q], .tuple [.int n, .int m]] ∧ 1 ≤ a ∧ 1 ≤ b ∧ 1 ≤ m ∧ sz 1000 a ∧ sz 1000 b ∧ sz 1000 x ∧ sz 1000 y ∧ sz 1000 p ∧ sz 1000 q ∧ sz 1000 n ∧ sz 1000 m ∧ Q (.va (.tuple [placeN a x p n m, placeN b y q n m]))
theorem len__place : ∀ ds Q E, D__place ds Q E → ds.length = 3 := by
  rintro _ Q E ⟨a, b, x, y, p, q, n, m, rfl, _⟩
  rfl
theorem rd__place : ∀ ds Q E, D__place ds Q E → m__place (fun c _ => E c) (endP Q) (slots0 8 ds) := by
  rintro _ Q E ⟨a, b, x, y, p, q, n, m, rfl, ha, hb, hm, za, zb, zx, zy, zp, zq, zn, zm, hQ⟩
  unfold m__place
  simp only [DL.mSeq, DL.mAsg, DL.mAsgR, DL.mAsgM, DL.mrs, DL.ssets, DL.mIf, DL.mRet, DL.mRetN, DL.mrOf, DL.mrLst, DL.mrCat, DL.mrCall, DL.mDrop, DL.mNext, DL.mBreak, DL.mCont, DL.mC, DL.mVar, DL.mOp2, DL.mOp1, DL.mAnd, DL.mOr, DL.mNot, DL.mIfE, DL.mChain, DL.mNil, DL.mCons, DL.mTup, DL.mLst, DL.mCallB, DL.mDict0, DL.mPart, DL.mNoPart, DL.mSl, DL.mCall, DL.mCallK, DL.mCallW, DL.mLenScr, DL.mWell, DL.mT, DL.mTAnd, DL.mTOr, DL.mTNot, DL.mTYes, DL.mgName, DL.mgNil_n, DL.mgCons_c, DL.mgTup_t, DL.mgTup_l, DL.miSeq, DL.miRng1, DL.miRng2, DL.mRaise, DL.mApp, DL.mFor, DL.mLc, DL.mrLc, DL.sget, DL.sset, DL.slots0, DL.slotsW, DL.endP, DL.endW, DL.endL, DL.wF, DL.fz_va, DL.fz_own, List.length_cons, List.length_nil, List.map_cons, List.map_nil, List.replicate_succ, List.replicate_zero, Nat.reduceAdd, Nat.reduceSub, Nat.reduceLeDiff, List.cons_append, List.nil_append, Nat.zero_add, Nat.add_zero, Nat.sub_self, Option.some.injEq, PyData.bool.injEq, PyData.int.injEq, PyData.tuple.injEq, PyData.list.injEq, PyData.str.injEq, List.cons.injEq, DL.S.va.injEq, DL.S.own.injEq, DL.S.well.injEq, DL.S.scr.injEq, and_true, true_and, exists_eq_left', exists_eq_left, exists_eq_right, exists_eq_right', exists_and_left, exists_and_right, exists_eq, exists_eq', reduceCtorEq, false_and, and_false, exists_const, if_true, if_false, Bool.false_eq_true, reduceIte, Bool.not_true, Bool.not_false, DL.bIsi, List.any_cons, List.any_nil, Bool.or_false, Bool.or_true, Bool.false_or, Bool.true_or, DL.isK, DL.opAdd_i, DL.opSub_i, DL.opLt_i, DL.opLe_i, DL.opGt_i, DL.opGe_i, DL.opEq_int, DL.opNe_int, DL.opEq_b, DL.opNe_b, DL.opEq_nn, beq_self_eq_true, DL.opEq_str, DL.opNe_str, DL.opIsN_n, DL.opNotN_n, DL.isN, DL.opIsB_b, DL.opNotB_b, DL.opNeg_i, DL.bAbs_i, DL.bMax_i, DL.bMin_i, DL.bInt_i, DL.bGcd_i, DL.bLen_l, DL.bLen_t, DL.opAdd_t, DL.opAdd_l, DL.opIx_l, DL.opIx_t, DL.opSl_t, DL.opSl_l, DL.opRev_t, DL.opRev_l, DL.bList_l, DL.bList_t, DL.bTup_l, DL.bTup_t, DL.atI0, DL.atI1, DL.atI2, DL.atI3, DL.items_t, DL.items_l]
  refine ⟨a, b, x, y, p, q, rfl, _, rfl, ?_⟩
  refine ⟨_, rfl, rfl, ?_⟩
  have big : ∀ {u : Int}, sz 1000 u → sz 8000 u := fun h => sz_mono h (by decide)
  have le : ∀ {t : Int}, sz 8000 (m / (Nat.gcd t.natAbs m.natAbs : Nat)) := fun {t} => sz_div (big zm) (gcd_pos hm)
  have one : ∀ s u v : Int, 1 ≤ s → sz 1000 s → sz 1000 u → sz 1000 v → ∀ (x5 x6 x7 : S) (Y : PyData → DSt → Prop), (∀ x5 x6 x7, Y (placeL s u v n m) [.va (.tuple [.int a, .int b]), .va (.tuple [.int x, .int y, .int p, .int q]), .va (.tuple [.int n, .int m]), .va (.int n), .va (.int m), x5, x6, x7]) →
      mgTup 3 (mgCons (mgName 5) (mgCons (mgName 6) (mgCons (mgName 7) mgNil))) (.tuple [.int s, .int u, .int v]) [.va (.tuple [.int a, .int b]), .va (.tuple [.int x, .int y, .int p, .int q]), .va (.tuple [.int n, .int m]), .va (.int n), .va (.int m), x5, x6, x7] fun s1 =>
        mTYes s1 fun b s2 => if b = true then mCall D__fold wF (mCons (mVar 5) (mCons (mCall D_fraction_of wF (mCons (mOp2 opAdd (mOp2 opMul (mVar 6) (mVar 4)) (mOp2 opMul (mVar 7) (mVar 3))) (mCons (mVar 4) mNil))) mNil)) s2 Y else False := by
    intro s u v hs zs zu zv x5 x6 x7 Y hY
    simp only [DL.mSeq, DL.mAsg, DL.mAsgR, DL.mAsgM, DL.mrs, DL.ssets, DL.mIf, DL.mRet, DL.mRetN, DL.mrOf, DL.mrLst, DL.mrCat, DL.mrCall, DL.mDrop, DL.mNext, DL.mBreak, DL.mCont, DL.mC, DL.mVar, DL.mOp2, DL.mOp1, DL.mAnd, DL.mOr, DL.mNot, DL.mIfE, DL.mChain, DL.mNil, DL.mCons, DL.mTup, DL.mLst, DL.mCallB, DL.mDict0, DL.mPart, DL.mNoPart, DL.mSl, DL.mCall, DL.mCallK, DL.mCallW, DL.mLenScr, DL.mWell, DL.mT, DL.mTAnd, DL.mTOr, DL.mTNot, DL.mTYes, DL.mgName, DL.mgNil_n, DL.mgCons_c, DL.mgTup_t, DL.mgTup_l, DL.miSeq, DL.miRng1, DL.miRng2, DL.mRaise, DL.mApp, DL.mFor, DL.mLc, DL.mrLc, DL.sget, DL.sset, DL.slots0, DL.slotsW, DL.endP, DL.endW, DL.endL, DL.wF, DL.fz_va, DL.fz_own, List.length_cons, List.length_nil, List.map_cons, List.map_nil, List.replicate_succ, List.replicate_zero, Nat.reduceAdd, Nat.reduceSub, Nat.reduceLeDiff, List.cons_append, List.nil_append, Nat.zero_add, Nat.add_zero, Nat.sub_self, Option.some.injEq, PyData.bool.injEq, PyData.int.injEq, PyData.tuple.injEq, PyData.list.injEq, PyData.str.injEq, List.cons.injEq, DL.S.va.injEq, DL.S.own.injEq, DL.S.well.injEq, DL.S.scr.injEq, and_true, true_and, exists_eq_left', exists_eq_left, exists_eq_right, exists_eq_right', exists_and_left, exists_and_right, exists_eq, exists_eq', reduceCtorEq, false_and, and_false, exists_const, if_true, if_false, Bool.false_eq_true, reduceIte, Bool.not_true, Bool.not_false, DL.bIsi, List.any_cons, List.any_nil, Bool.or_false, Bool.or_true, Bool.false_or, Bool.true_or, DL.isK, DL.opAdd_i, DL.opSub_i, DL.opLt_i, DL.opLe_i, DL.opGt_i, DL.opGe_i, DL.opEq_int, DL.opNe_int, DL.opEq_b, DL.opNe_b, DL.opEq_nn, beq_self_eq_true, DL.opEq_str, DL.opNe_str, DL.opIsN_n, DL.opNotN_n, DL.isN, DL.opIsB_b, DL.opNotB_b, DL.opNeg_i, DL.bAbs_i, DL.bMax_i, DL.bMin_i, DL.bInt_i, DL.bGcd_i, DL.bLen_l, DL.bLen_t, DL.opAdd_t, DL.opAdd_l, DL.opIx_l, DL.opIx_t, DL.opSl_t, DL.opSl_l, DL.opRev_t, DL.opRev_l, DL.bList_l, DL.bList_t, DL.bTup_l, DL.bTup_t, DL.atI0, DL.atI1, DL.atI2, DL.atI3, DL.items_t, DL.items_l]
    exact ⟨_, opMul_ok zu zm (by decide), _, opMul_ok zv zn (by decide), _, rfl, _, _, rfl, hm, big zm, _, rfl, s, _, _, rfl, hs, div_gcd_pos hm, big zs, le, _, rfl, hY _ _ _⟩
  refine lcL_run (fun s => ∃ x5 x6 x7, s = [.va (.tuple [.int a, .int b]), .va (.tuple [.int x, .int y, .int p, .int q]), .va (.tuple [.int n, .int m]), .va (.int n), .va (.int m), x5, x6, x7]) (placeK n m) _ ?_ _ [] ⟨_, _, _, rfl⟩ (by simp) ?_
  · rintro d hd s ⟨x5, x6, x7, rfl⟩ Y N hY hN
    simp only [List.mem_cons, List.not_mem_nil, or_false] at hd
    simp only [swipe, sset]
    rcases hd with rfl | rfl
    · rw [lineD_eq] at hY ⊢
      exact one _ _ _ ha za (sz_lineA zx) (sz_lineV zp) _ _ _ Y fun _ _ _ => hY _ _ rfl ⟨_, _, _, rfl⟩
    · rw [lineD_eq] at hY ⊢
      exact one _ _ _ hb zb (sz_lineA zy) (sz_lineV zq) _ _ _ Y fun _ _ _ => hY _ _ rfl ⟨_, _, _, rfl⟩
  · rintro s ⟨x5, x6, x7, rfl⟩
    rw [lineD_eq, lineD_eq]
    exact hQ
section
variable {P : Program} {w : World} {K : PySem.W.Frag} {mg : Str → Option Value} {base : Heap} {CN : String → Option Addr}
theorem ok__place {f : Addr} {fd : FuncData} (F : Fun K "_place" "_place" s__place f fd) (g : G K mg CN) (c__fold : CalP P w K mg base CN 1 "_fold" D__fold) (c_fraction_of : CalP P w K mg base CN 1 "fraction_of" D_fraction_of) (c_lines_of : CalP P w K mg base CN 2 "lines_of" D_lines_of) : FnG P w K mg base 3 f fd ["table", "shot", "time"] (spP K CN D__place) := by
  have sc := sc__place
  exact fun_okP (m := m__place) F sc (by decide) len__place (fun cdv A outer s H E C W hw hr tk =>
    (pds_cons (pds_asg (ps_asg (dv 2) (pdg_tup rfl (gcons (dg 3 sc.nd) (gcons (dg 4 sc.nd) pdgs_nil)))))
    (pds_one (pds_ret (pdr_of (pd_tupOf g.b_tuple (pd_lc (pe_lc (own := [("side", 5), ("start", 6), ("speed", 7)]) rfl sc.nd (pdi_seq (pd_call c_lines_of hr (by decide) tk (pda_cons (dv 0) (pda_cons (dv 1) pda_nil)))) (blkOk_by (N := ["table", "shot", "time", "top", "bottom", "side", "start", "speed"]) (sc := (defScope s__place)) (by decide +kernel)) (fun _ _ _ _ _ => (pdgv_tup rfl (gvcons (dgv 5 (vs := [5, 6, 7]) sc.nd) (gvcons (dgv 6 (vs := [5, 6, 7]) sc.nd) (gvcons (dgv 7 (vs := [5, 6, 7]) sc.nd) pdgsv_nil))))) (fun _ _ _ _ _ => pdts_nil) (fun _ _ _ _ _ => (pd_call c__fold hr (by decide) takesF (pda_cons (dv 5) (pda_cons (pd_call c_fraction_of hr (by decide) takesF (pda_cons (pd_op or_add rl_add (pd_op or_mul rl_mul (dv 6) (dv 4)) (pd_op or_mul rl_mul (dv 7) (dv 3))) (pda_cons (dv 4) pda_nil))) pda_nil)))))))))))) rd__place
end
end LW
namespace LW
open PySem PySem.Spec PyProof.Rows L2 DL
def m_place_at (W : WD) : MS :=
  mSeq (mDrop (mCall D__check_all W (mCons (mVar 0) (mCons (mVar 1) (mCons (mVar 2) (mNil))))))
  (mRet (mrOf (mCall D__place W (mCons (mVar 0) (mCons (mVar 1) (mCons (mVar 2) (mNil)))))))
def placeD : PyData → PyData → PyData → PyData
  | .tuple [.int a, .int b], .tuple [.int x, .int y, .int p, .int q], .tuple [.int n, .int m] => .tuple [placeN a x p n m, placeN b y q n m]
  | _, _, _ => .none
def D_place_at : PSpec := fun ds Q E => ∃ t v f, ds = [t, v, f] ∧ (isTab t = false → E "InvalidTable") ∧ (isTab t = true → isShot t v = false → E "InvalidShot") ∧ (isTab t = true → isShot t v = true → isFrac f = false → E "InvalidTime") ∧ (isTab t = true → isShot t v = true → isFrac f = true → szD t ∧ szD v ∧ szD f ∧ Q (.va (placeD t v f)))
theorem len_place_at : ∀ ds Q E, D_place_at ds Q E → ds.length = 3 := by
  rintro _ Q E ⟨t, v, f, rfl, _⟩
  rfl
theorem rd_place_at : ∀ ds Q E, D_place_at ds Q E → m_place_at (fun c _ => E c) (endP Q) (slots0 3 ds) := by
  rintro _ Q E ⟨t, v, f, rfl, q1, q2, q3, q4⟩
  unfold m_place_at
  simp only [DL.mSeq, DL.mAsg, DL.mAsgR, DL.mAsgM, DL.mrs, DL.ssets, DL.mIf, DL.mRet, DL.mRetN, DL.mrOf, DL.mrLst, DL.mrCat, DL.mrCall, DL.mDrop, DL.mNext, DL.mBreak, DL.mCont, DL.mC, DL.mVar, DL.mOp2, DL.mOp1, DL.mAnd, DL.mOr, DL.mNot, DL.mIfE, DL.mChain, DL.mNil, DL.mCons, DL.mTup, DL.mLst, DL.mCallB, DL.mDict0, DL.mPart, DL.mNoPart, DL.mSl, DL.mCall, DL.mCallK, DL.mCallW, DL.mLenScr, DL.mWell, DL.mT, DL.mTAnd, DL.mTOr, DL.mTNot, DL.mTYes, DL.mgName, DL.mgNil_n, DL.mgCons_c, DL.mgTup_t, DL.mgTup_l, DL.miSeq, DL.miRng1, DL.miRng2, DL.mRaise, DL.mApp, DL.mFor, DL.mLc, DL.mrLc, DL.sget, DL.sset, DL.slots0, DL.slotsW, DL.endP, DL.endW, DL.endL, DL.wF, DL.fz_va, DL.fz_own, List.length_cons, List.length_nil, List.map_cons, List.map_nil, List.replicate_succ, List.replicate_zero, Nat.reduceAdd, Nat.reduceSub, Nat.reduceLeDiff, List.cons_append, List.nil_append, Nat.zero_add, Nat.add_zero, Nat.sub_self, Option.some.injEq, PyData.bool.injEq, PyData.int.injEq, PyData.tuple.injEq, PyData.list.injEq, PyData.str.injEq, List.cons.injEq, DL.S.va.injEq, DL.S.own.injEq, DL.S.well.injEq, DL.S.scr.injEq, and_true, true_and, exists_eq_left', exists_eq_left, exists_eq_right, exists_eq_right', exists_and_left, exists_and_right, exists_eq, exists_eq', reduceCtorEq, false_and, and_false, exists_const, if_true, if_false, Bool.false_eq_true, reduceIte, Bool.not_true, Bool.not_false, DL.bIsi, List.any_cons, List.any_nil, Bool.or_false, Bool.or_true, Bool.false_or, Bool.true_or, DL.isK, DL.opAdd_i, DL.opSub_i, DL.opLt_i, DL.opLe_i, DL.opGt_i, DL.opGe_i, DL.opEq_int, DL.opNe_int, DL.opEq_b, DL.opNe_b, DL.opEq_nn, beq_self_eq_true, DL.opEq_str, DL.opNe_str, DL.opIsN_n, DL.opNotN_n, DL.isN, DL.opIsB_b, DL.opNotB_b, DL.opNeg_i, DL.bAbs_i, DL.bMax_i, DL.bMin_i, DL.bInt_i, DL.bGcd_i, DL.bLen_l, DL.bLen_t, DL.opAdd_t, DL.opAdd_l, DL.opIx_l, DL.opIx_t, DL.opSl_t, DL.opSl_l, DL.opRev_t, DL.opRev_l, DL.bList_l, DL.bList_t, DL.bTup_l, DL.bTup_t, DL.atI0, DL.atI1, DL.atI2, DL.atI3, DL.items_t, DL.items_l]
  refine ⟨t, v, f, rfl, q1, q2, q3, fun h1 h2 h3 => ⟨⟨_, rfl⟩, ?_⟩⟩
  obtain ⟨z1, z2, z3, q⟩ := q4 h1 h2 h3
  obtain ⟨a, b, x, y, p, r, rfl, rfl, -⟩ := shot_inv h2
  obtain ⟨n, m, rfl, hm, -⟩ := frac_inv h3
  simp only [isTab, Bool.and_eq_true, decide_eq_true_eq] at h1
  exact ⟨a, b, x, y, p, r, n, m, rfl, h1.1, h1.2, hm, z1.1, z1.2, z2.1, z2.2.1, z2.2.2.1, z2.2.2.2, z3.1, z3.2, _, rfl, q⟩
section
variable {P : Program} {w : World} {K : PySem.W.Frag} {mg : Str → Option Value} {base : Heap} {CN : String → Option Addr}
theorem ok_place_at {f : Addr} {fd : FuncData} (F : Fun K "place_at" "place_at" s_place_at f fd) (g : G K mg CN) (c__check_all : CalP P w K mg base CN 7 "_check_all" D__check_all) (c__place : CalP P w K mg base CN 3 "_place" D__place) : FnG P w K mg base 8 f fd ["table", "shot", "time"] (spP K CN D_place_at) := by
  have sc := sc_place_at
  exact fun_okP (m := m_place_at) F sc (by decide) len_place_at (fun cdv A outer s H E C W hw hr tk =>
    (pds_cons (pds_drop (pd_call c__check_all hr (by decide) tk (pda_cons (dv 0) (pda_cons (dv 1) (pda_cons (dv 2) pda_nil)))))
    (pds_one (pds_ret (pdr_of (pd_call c__place hr (by decide) tk (pda_cons (dv 0) (pda_cons (dv 1) (pda_cons (dv 2) pda_nil))))))))) rd_place_at
end
end LW
namespace LW
open PySem PySem.Spec PyProof.Rows L2 DL
def m__line_way (W : WD) : MS :=
  mSeq (mAsg (mVar 0) (mgTup 3 (mgCons (mgName 2) (mgCons (mgName 3) (mgCons (mgName 4) (mgNil))))))
  (mSeq (mAsg (mVar 1) (mgTup 2 (mgCons (mgName 5) (mgCons (mgName 6) (mgNil)))))
  (mSeq (mAsg (mOp2 opFdiv (mOp2 opAdd (mOp2 opMul (mVar 3) (mVar 6)) (mOp2 opMul (mVar 4) (mVar 5))) (mOp2 opMul (mVar 2) (mVar 6))) (mgName 7))
  (mSeq (mIf (mT (mOp2 opEq (mOp2 opMod (mVar 7) (mC (.int 2))) (mC (.int 0)))) (mRet (mrOf (mVar 4))) (mNext))
  (mRet (mrOf (mOp1 opNeg (mVar 4)))))))
def wayL (s a v n m : Int) : Int := if (a * m + v * n) / (s * m) % 2 = 0 then v else -v
def D__line_way : PSpec := fun ds Q _ => ∃ s a v n m, ds = [.tuple [.int s, .int a, .int v], .tuple [.int n, .int m]] ∧ 1 ≤ s ∧ 1 ≤ m ∧ sz 1000 s ∧ sz 1000 a ∧ sz 1000 v ∧ sz 1000 n ∧ sz 1000 m ∧ Q (.va (.int (wayL s a v n m)))
theorem len__line_way : ∀ ds Q E, D__line_way ds Q E → ds.length = 2 := by
  rintro _ Q E ⟨s, a, v, n, m, rfl, _⟩
  rfl
theorem rd__line_way : ∀ ds Q E, D__line_way ds Q E → m__line_way (fun c _ => E c) (endP Q) (slots0 8 ds) := by
  rintro _ Q E ⟨s, a, v, n, m, rfl, hs, hm, zs, za, zv, zn, zm, q⟩
  unfold m__line_way
  simp only [DL.mSeq, DL.mAsg, DL.mAsgR, DL.mAsgM, DL.mrs, DL.ssets, DL.mIf, DL.mRet, DL.mRetN, DL.mrOf, DL.mrLst, DL.mrCat, DL.mrCall, DL.mDrop, DL.mNext, DL.mBreak, DL.mCont, DL.mC, DL.mVar, DL.mOp2, DL.mOp1, DL.mAnd, DL.mOr, DL.mNot, DL.mIfE, DL.mChain, DL.mNil, DL.mCons, DL.mTup, DL.mLst, DL.mCallB, DL.mDict0, DL.mPart, DL.mNoPart, DL.mSl, DL.mCall, DL.mCallK, DL.mCallW, DL.mLenScr, DL.mWell, DL.mT, DL.mTAnd, DL.mTOr, DL.mTNot, DL.mTYes, DL.mgName, DL.mgNil_n, DL.mgCons_c, DL.mgTup_t, DL.mgTup_l, DL.miSeq, DL.miRng1, DL.miRng2, DL.mRaise, DL.mApp, DL.mFor, DL.mLc, DL.mrLc, DL.sget, DL.sset, DL.slots0, DL.slotsW, DL.endP, DL.endW, DL.endL, DL.wF, DL.fz_va, DL.fz_own, List.length_cons, List.length_nil, List.map_cons, List.map_nil, List.replicate_succ, List.replicate_zero, Nat.reduceAdd, Nat.reduceSub, Nat.reduceLeDiff, List.cons_append, List.nil_append, Nat.zero_add, Nat.add_zero, Nat.sub_self, Option.some.injEq, PyData.bool.injEq, PyData.int.injEq, PyData.tuple.injEq, PyData.list.injEq, PyData.str.injEq, List.cons.injEq, DL.S.va.injEq, DL.S.own.injEq, DL.S.well.injEq, DL.S.scr.injEq, and_true, true_and, exists_eq_left', exists_eq_left, exists_eq_right, exists_eq_right', exists_and_left, exists_and_right, exists_eq, exists_eq', reduceCtorEq, false_and, and_false, exists_const, if_true, if_false, Bool.false_eq_true, reduceIte, Bool.not_true, Bool.not_false, DL.bIsi, List.any_cons, List.any_nil, Bool.or_false, Bool.or_true, Bool.false_or, Bool.true_or, DL.isK, DL.opAdd_i, DL.opSub_i, DL.opLt_i, DL.opLe_i, DL.opGt_i, DL.opGe_i, DL.opEq_int, DL.opNe_int, DL.opEq_b, DL.opNe_b, DL.opEq_nn, beq_self_eq_true, DL.opEq_str, DL.opNe_str, DL.opIsN_n, DL.opNotN_n, DL.isN, DL.opIsB_b, DL.opNotB_b, DL.opNeg_i, DL.bAbs_i, DL.bMax_i, DL.bMin_i, DL.bInt_i, DL.bGcd_i, DL.bLen_l, DL.bLen_t, DL.opAdd_t, DL.opAdd_l, DL.opIx_l, DL.opIx_t, DL.opSl_t, DL.opSl_l, DL.opRev_t, DL.opRev_l, DL.bList_l, DL.bList_t, DL.bTup_l, DL.bTup_t, DL.atI0, DL.atI1, DL.atI2, DL.atI3, DL.items_t, DL.items_l]
  refine ⟨_, opMul_ok za zm (by decide), _, opMul_ok zv zn (by decide), _, rfl, _, opMul_ok zs zm (by decide), _, opFdiv_ok (Int.mul_pos (by omega) (by omega)) (sz_mul zs zm) (by decide), _, opMod_ok (by decide), _, opEq_int, _, rfl, ?_⟩
  by_cases h : (a * m + v * n) / (s * m) % 2 = 0
  · rw [if_pos (decide_eq_true h)]
    rw [wayL, if_pos h] at q
    exact q
  · rw [if_neg (by simpa using h)]
    rw [wayL, if_neg h] at q
    exact q
section
variable {P : Program} {w : World} {K : PySem.W.Frag} {mg : Str → Option Value} {base : Heap} {CN : String → Option Addr}
theorem ok__line_way {f : Addr} {fd : FuncData} (F : Fun K "_line_way" "_line_way" s__line_way f fd) (g : G K mg CN)  : FnG P w K mg base 1 f fd ["line", "time"] (spP K CN D__line_way) := by
  have sc := sc__line_way
  exact fun_okP (m := m__line_way) F sc (by decide) len__line_way (fun cdv A outer s H E C W hw hr tk =>
    (pds_cons (pds_asg (ps_asg (dv 0) (pdg_tup rfl (gcons (dg 2 sc.nd) (gcons (dg 3 sc.nd) (gcons (dg 4 sc.nd) pdgs_nil))))))
    (pds_cons (pds_asg (ps_asg (dv 1) (pdg_tup rfl (gcons (dg 5 sc.nd) (gcons (dg 6 sc.nd) pdgs_nil)))))
    (pds_cons (pds_asg (ps_asg (pd_op op_fdivW rl_fdiv (pd_op or_add rl_add (pd_op or_mul rl_mul (dv 3) (dv 6)) (pd_op or_mul rl_mul (dv 4) (dv 5))) (pd_op or_mul rl_mul (dv 2) (dv 6))) (dg 7 sc.nd)))
    (pds_cons (pds_if (pdt_cmp (or_eqD (RoomG.u64 hr)) rl_eq (pd_op op_mod rl_mod (dv 7) pd_int) pd_int (nomark _)) (pds_one (pds_ret (pdr_of (dv 4)))) pds_nil)
    (pds_one (pds_ret (pdr_of (pd_un un_neg rl_neg (dv 4)))))))))) rd__line_way
end
end LW
namespace LW
open PySem PySem.Spec PyProof.Rows L2 DL
def m__way (W : WD) : MS :=
  mRet (mrOf (mCallB bTup (mCons (mLc (miSeq (mCall D_lines_of W (mCons (mVar 0) (mCons (mVar 1) (mNil))))) (mgName 3) (mTYes) (mCall D__line_way wF (mCons (mVar 3) (mCons (mVar 2) (mNil)))) [3]) mNil)))
def wayN (s a v n m : Int) : Int := wayL s (lineA v a) (lineV v) n m
def wayK (n m : Int) : PyData → Option PyData
  | .tuple [.int s, .int a, .int v] => some (.int (wayL s a v n m))
  | _ => none
def D__way : PSpec := fun ds Q _ => ∃ a b x y p q n m, ds = [.tuple [.int a, .int b], .tuple [.int x, .int y, .int p, .int q], .tuple [.int n, .int m]] ∧ 1 ≤ a ∧ 1 ≤ b ∧ 1 ≤ m ∧ sz 1000 a ∧ sz 1000 b ∧ sz 1000 x ∧ sz 1000 y ∧ sz 1000 p ∧ sz 1000 q ∧ sz 1000 n ∧ sz 1000 m ∧ Q (.va (.tuple [.int (wayN a x p n m), .int (wayN b y q n m)]))
theorem len__way : ∀ ds Q E, D__way ds Q E → ds.length = 3 := by
  rintro _ Q E ⟨a, b, x, y, p, q, n, m, rfl, _⟩
  rfl
theorem rd__way : ∀ ds Q E, D__way ds Q E → m__way (fun c _ => E c) (endP Q) (slots0 4 ds) := by
  rintro _ Q E ⟨a, b, x, y, p, q, n, m, rfl, ha, hb, hm, za, zb, zx, zy, zp, zq, zn, zm, hQ⟩
  unfold m__way
  simp only [DL.mSeq, DL.mAsg, DL.mAsgR, DL.mAsgM, DL.mrs, DL.ssets, DL.mIf, DL.mRet, DL.mRetN, DL.mrOf, DL.mrLst, DL.mrCat, DL.mrCall, DL.mDrop, DL.mNext, DL.mBreak, DL.mCont, DL.mC, DL.mVar, DL.mOp2, DL.mOp1, DL.mAnd, DL.mOr, DL.mNot, DL.mIfE, DL.mChain, DL.mNil, DL.mCons, DL.mTup, DL.mLst, DL.mCallB, DL.mDict0, DL.mPart, DL.mNoPart, DL.mSl, DL.mCall, DL.mCallK, DL.mCallW, DL.mLenScr, DL.mWell, DL.mT, DL.mTAnd, DL.mTOr, DL.mTNot, DL.mTYes, DL.mgName, DL.mgNil_n, DL.mgCons_c, DL.mgTup_t, DL.mgTup_l, DL.miSeq, DL.miRng1, DL.miRng2, DL.mRaise, DL.mApp, DL.mFor, DL.mLc, DL.mrLc, DL.sget, DL.sset, DL.slots0, DL.slotsW, DL.endP, DL.endW, DL.endL, DL.wF, DL.fz_va, DL.fz_own, List.length_cons, List.length_nil, List.map_cons, List.map_nil, List.replicate_succ, List.replicate_zero, Nat.reduceAdd, Nat.reduceSub, Nat.reduceLeDiff, List.cons_append, List.nil_append, Nat.zero_add, Nat.add_zero, Nat.sub_self, Option.some.injEq, PyData.bool.injEq, PyData.int.injEq, PyData.tuple.injEq, PyData.list.injEq, PyData.str.injEq, List.cons.injEq, DL.S.va.injEq, DL.S.own.injEq, DL.S.well.injEq, DL.S.scr.injEq, and_true, true_and, exists_eq_left', exists_eq_left, exists_eq_right, exists_eq_right', exists_and_left, exists_and_right, exists_eq, exists_eq', reduceCtorEq, false_and, and_false, exists_const, if_true, if_false, Bool.false_eq_true, reduceIte, Bool.not_true, Bool.not_false, DL.bIsi, List.any_cons, List.any_nil, Bool.or_false, Bool.or_true, Bool.false_or, Bool.true_or, DL.isK, DL.opAdd_i, DL.opSub_i, DL.opLt_i, DL.opLe_i, DL.opGt_i, DL.opGe_i, DL.opEq_int, DL.opNe_int, DL.opEq_b, DL.opNe_b, DL.opEq_nn, beq_self_eq_true, DL.opEq_str, DL.opNe_str, DL.opIsN_n, DL.opNotN_n, DL.isN, DL.opIsB_b, DL.opNotB_b, DL.opNeg_i, DL.bAbs_i, DL.bMax_i, DL.bMin_i, DL.bInt_i, DL.bGcd_i, DL.bLen_l, DL.bLen_t, DL.opAdd_t, DL.opAdd_l, DL.opIx_l, DL.opIx_t, DL.opSl_t, DL.opSl_l, DL.opRev_t, DL.opRev_l, DL.bList_l, DL.bList_t, DL.bTup_l, DL.bTup_t, DL.atI0, DL.atI1, DL.atI2, DL.atI3, DL.items_t, DL.items_l]
  refine ⟨a, b, x, y, p, q, rfl, _, rfl, _, rfl, rfl, ?_⟩
  refine lcL_run (fun s => ∃ x3, s = [.va (.tuple [.int a, .int b]), .va (.tuple [.int x, .int y, .int p, .int q]), .va (.tuple [.int n, .int m]), x3]) (wayK n m) _ ?_ _ [] ⟨_, rfl⟩ (by simp) ?_
  · rintro d hd s ⟨x3, rfl⟩ Y N hY hN
    simp only [List.mem_cons, List.not_mem_nil, or_false] at hd
    simp only [swipe, sset]
    rcases hd with rfl | rfl
    · rw [lineD_eq] at hY ⊢
      simp only [DL.mSeq, DL.mAsg, DL.mAsgR, DL.mAsgM, DL.mrs, DL.ssets, DL.mIf, DL.mRet, DL.mRetN, DL.mrOf, DL.mrLst, DL.mrCat, DL.mrCall, DL.mDrop, DL.mNext, DL.mBreak, DL.mCont, DL.mC, DL.mVar, DL.mOp2, DL.mOp1, DL.mAnd, DL.mOr, DL.mNot, DL.mIfE, DL.mChain, DL.mNil, DL.mCons, DL.mTup, DL.mLst, DL.mCallB, DL.mDict0, DL.mPart, DL.mNoPart, DL.mSl, DL.mCall, DL.mCallK, DL.mCallW, DL.mLenScr, DL.mWell, DL.mT, DL.mTAnd, DL.mTOr, DL.mTNot, DL.mTYes, DL.mgName, DL.mgNil_n, DL.mgCons_c, DL.mgTup_t, DL.mgTup_l, DL.miSeq, DL.miRng1, DL.miRng2, DL.mRaise, DL.mApp, DL.mFor, DL.mLc, DL.mrLc, DL.sget, DL.sset, DL.slots0, DL.slotsW, DL.endP, DL.endW, DL.endL, DL.wF, DL.fz_va, DL.fz_own, List.length_cons, List.length_nil, List.map_cons, List.map_nil, List.replicate_succ, List.replicate_zero, Nat.reduceAdd, Nat.reduceSub, Nat.reduceLeDiff, List.cons_append, List.nil_append, Nat.zero_add, Nat.add_zero, Nat.sub_self, Option.some.injEq, PyData.bool.injEq, PyData.int.injEq, PyData.tuple.injEq, PyData.list.injEq, PyData.str.injEq, List.cons.injEq, DL.S.va.injEq, DL.S.own.injEq, DL.S.well.injEq, DL.S.scr.injEq, and_true, true_and, exists_eq_left', exists_eq_left, exists_eq_right, exists_eq_right', exists_and_left, exists_and_right, exists_eq, exists_eq', reduceCtorEq, false_and, and_false, exists_const, if_true, if_false, Bool.false_eq_true, reduceIte, Bool.not_true, Bool.not_false, DL.bIsi, List.any_cons, List.any_nil, Bool.or_false, Bool.or_true, Bool.false_or, Bool.true_or, DL.isK, DL.opAdd_i, DL.opSub_i, DL.opLt_i, DL.opLe_i, DL.opGt_i, DL.opGe_i, DL.opEq_int, DL.opNe_int, DL.opEq_b, DL.opNe_b, DL.opEq_nn, beq_self_eq_true, DL.opEq_str, DL.opNe_str, DL.opIsN_n, DL.opNotN_n, DL.isN, DL.opIsB_b, DL.opNotB_b, DL.opNeg_i, DL.bAbs_i, DL.bMax_i, DL.bMin_i, DL.bInt_i, DL.bGcd_i, DL.bLen_l, DL.bLen_t, DL.opAdd_t, DL.opAdd_l, DL.opIx_l, DL.opIx_t, DL.opSl_t, DL.opSl_l, DL.opRev_t, DL.opRev_l, DL.bList_l, DL.bList_t, DL.bTup_l, DL.bTup_t, DL.atI0, DL.atI1, DL.atI2, DL.atI3, DL.items_t, DL.items_l]
      exact ⟨_, _, _, n, m, rfl, ha, hm, za, sz_lineA zx, sz_lineV zp, zn, zm, _, rfl, hY _ _ rfl ⟨_, rfl⟩⟩
    · rw [lineD_eq] at hY ⊢
      simp only [DL.mSeq, DL.mAsg, DL.mAsgR, DL.mAsgM, DL.mrs, DL.ssets, DL.mIf, DL.mRet, DL.mRetN, DL.mrOf, DL.mrLst, DL.mrCat, DL.mrCall, DL.mDrop, DL.mNext, DL.mBreak, DL.mCont, DL.mC, DL.mVar, DL.mOp2, DL.mOp1, DL.mAnd, DL.mOr, DL.mNot, DL.mIfE, DL.mChain, DL.mNil, DL.mCons, DL.mTup, DL.mLst, DL.mCallB, DL.mDict0, DL.mPart, DL.mNoPart, DL.mSl, DL.mCall, DL.mCallK, DL.mCallW, DL.mLenScr, DL.mWell, DL.mT, DL.mTAnd, DL.mTOr, DL.mTNot, DL.mTYes, DL.mgName, DL.mgNil_n, DL.mgCons_c, DL.mgTup_t, DL.mgTup_l, DL.miSeq, DL.miRng1, DL.miRng2, DL.mRaise, DL.mApp, DL.mFor, DL.mLc, DL.mrLc, DL.sget, DL.sset, DL.slots0, DL.slotsW, DL.endP, DL.endW, DL.endL, DL.wF, DL.fz_va, DL.fz_own, List.length_cons, List.length_nil, List.map_cons, List.map_nil, List.replicate_succ, List.replicate_zero, Nat.reduceAdd, Nat.reduceSub, Nat.reduceLeDiff, List.cons_append, List.nil_append, Nat.zero_add, Nat.add_zero, Nat.sub_self, Option.some.injEq, PyData.bool.injEq, PyData.int.injEq, PyData.tuple.injEq, PyData.list.injEq, PyData.str.injEq, List.cons.injEq, DL.S.va.injEq, DL.S.own.injEq, DL.S.well.injEq, DL.S.scr.injEq, and_true, true_and, exists_eq_left', exists_eq_left, exists_eq_right, exists_eq_right', exists_and_left, exists_and_right, exists_eq, exists_eq', reduceCtorEq, false_and, and_false, exists_const, if_true, if_false, Bool.false_eq_true, reduceIte, Bool.not_true, Bool.not_false, DL.bIsi, List.any_cons, List.any_nil, Bool.or_false, Bool.or_true, Bool.false_or, Bool.true_or, DL.isK, DL.opAdd_i, DL.opSub_i, DL.opLt_i, DL.opLe_i, DL.opGt_i, DL.opGe_i, DL.opEq_int, DL.opNe_int, DL.opEq_b, DL.opNe_b, DL.opEq_nn, beq_self_eq_true, DL.opEq_str, DL.opNe_str, DL.opIsN_n, DL.opNotN_n, DL.isN, DL.opIsB_b, DL.opNotB_b, DL.opNeg_i, DL.bAbs_i, DL.bMax_i, DL.bMin_i, DL.bInt_i, DL.bGcd_i, DL.bLen_l, DL.bLen_t, DL.opAdd_t, DL.opAdd_l, DL.opIx_l, DL.opIx_t, DL.opSl_t, DL.opSl_l, DL.opRev_t, DL.opRev_l, DL.bList_l, DL.bList_t, DL.bTup_l, DL.bTup_t, DL.atI0, DL.atI1, DL.atI2, DL.atI3, DL.items_t, DL.items_l]
      exact ⟨_, _, _, n, m, rfl, hb, hm, zb, sz_lineA zy, sz_lineV zq, zn, zm, _, rfl, hY _ _ rfl ⟨_, rfl⟩⟩
  · rintro s ⟨x3, rfl⟩
    rw [lineD_eq, lineD_eq]
    exact hQ
section
variable {P : Program} {w : World} {K : PySem.W.Frag} {mg : Str → Option Value} {base : Heap} {CN : String → Option Addr}
theorem ok__way {f : Addr} {fd : FuncData} (F : Fun K "_way" "_way" s__way f fd) (g : G K mg CN) (c__line_way : CalP P w K mg base CN 1 "_line_way" D__line_way) (c_lines_of : CalP P w K mg base CN 2 "lines_of" D_lines_of) : FnG P w K mg base 3 f fd ["table", "shot", "time"] (spP K CN D__way) := by
  have sc := sc__way
  exact fun_okP (m := m__way) F sc (by decide) len__way (fun cdv A outer s H E C W hw hr tk =>
    (pds_one (pds_ret (pdr_of (pd_tupOf g.b_tuple (pd_lc (pe_lc (own := [("line", 3)]) rfl sc.nd (pdi_seq (pd_call c_lines_of hr (by decide) tk (pda_cons (dv 0) (pda_cons (dv 1) pda_nil)))) (blkOk_by (N := ["table", "shot", "time", "line"]) (sc := (defScope s__way)) (by decide +kernel)) (fun _ _ _ _ _ => (dgv 3 (vs := [3]) sc.nd)) (fun _ _ _ _ _ => pdts_nil) (fun _ _ _ _ _ => (pd_call c__line_way hr (by decide) takesF (pda_cons (dv 3) (pda_cons (dv 2) pda_nil))))))))))) rd__way
end
end LW
namespace LW
open PySem PySem.Spec PyProof.Rows L2 DL
def m_way_at (W : WD) : MS :=
  mSeq (mDrop (mCall D__check_all W (mCons (mVar 0) (mCons (mVar 1) (mCons (mVar 2) (mNil))))))
  (mRet (mrOf (mCall D__way W (mCons (mVar 0) (mCons (mVar 1) (mCons (mVar 2) (mNil)))))))
def wayD : PyData → PyData → PyData → PyData
  | .tuple [.int a, .int b], .tuple [.int x, .int y, .int p, .int q], .tuple [.int n, .int m] => .tuple [.int (wayN a x p n m), .int (wayN b y q n m)]
  | _, _, _ => .none
def D_way_at : PSpec := fun ds Q E => ∃ t v f, ds = [t, v, f] ∧ (isTab t = false → E "InvalidTable") ∧ (isTab t = true → isShot t v = false → E "InvalidShot") ∧ (isTab t = true → isShot t v = true → isFrac f = false → E "InvalidTime") ∧ (isTab t = true → isShot t v = true → isFrac f = true → szD t ∧ szD v ∧ szD f ∧ Q (.va (wayD t v f)))
theorem len_way_at : ∀ ds Q E, D_way_at ds Q E → ds.length = 3 := by
  rintro _ Q E ⟨t, v, f, rfl, _⟩
  rfl
theorem rd_way_at : ∀ ds Q E, D_way_at ds Q E → m_way_at (fun c _ => E c) (endP Q) (slots0 3 ds) := by
  rintro _ Q E ⟨t, v, f, rfl, q1, q2, q3, q4⟩
  unfold m_way_at
  simp only [DL.mSeq, DL.mAsg, DL.mAsgR, DL.mAsgM, DL.mrs, DL.ssets, DL.mIf, DL.mRet, DL.mRetN, DL.mrOf, DL.mrLst, DL.mrCat, DL.mrCall, DL.mDrop, DL.mNext, DL.mBreak, DL.mCont, DL.mC, DL.mVar, DL.mOp2, DL.mOp1, DL.mAnd, DL.mOr, DL.mNot, DL.mIfE, DL.mChain, DL.mNil, DL.mCons, DL.mTup, DL.mLst, DL.mCallB, DL.mDict0, DL.mPart, DL.mNoPart, DL.mSl, DL.mCall, DL.mCallK, DL.mCallW, DL.mLenScr, DL.mWell, DL.mT, DL.mTAnd, DL.mTOr, DL.mTNot, DL.mTYes, DL.mgName, DL.mgNil_n, DL.mgCons_c, DL.mgTup_t, DL.mgTup_l, DL.miSeq, DL.miRng1, DL.miRng2, DL.mRaise, DL.mApp, DL.mFor, DL.mLc, DL.mrLc, DL.sget, DL.sset, DL.slots0, DL.slotsW, DL.endP, DL.endW, DL.endL, DL.wF, DL.fz_va, DL.fz_own, List.length_cons, List.length_nil, List.map_cons, List.map_nil, List.replicate_succ, List.replicate_zero, Nat.reduceAdd, Nat.reduceSub, Nat.reduceLeDiff, List.cons_append, List.nil_append, Nat.zero_add, Nat.add_zero, Nat.sub_self, Option.some.injEq, PyData.bool.injEq, PyData.int.injEq, PyData.tuple.injEq, PyData.list.injEq, PyData.str.injEq, List.cons.injEq, DL.S.va.injEq, DL.S.own.injEq, DL.S.well.injEq, DL.S.scr.injEq, and_true, true_and, exists_eq_left', exists_eq_left, exists_eq_right, exists_eq_right', exists_and_left, exists_and_right, exists_eq, exists_eq', reduceCtorEq, false_and, and_false, exists_const, if_true, if_false, Bool.false_eq_true, reduceIte, Bool.not_true, Bool.not_false, DL.bIsi, List.any_cons, List.any_nil, Bool.or_false, Bool.or_true, Bool.false_or, Bool.true_or, DL.isK, DL.opAdd_i, DL.opSub_i, DL.opLt_i, DL.opLe_i, DL.opGt_i, DL.opGe_i, DL.opEq_int, DL.opNe_int, DL.opEq_b, DL.opNe_b, DL.opEq_nn, beq_self_eq_true, DL.opEq_str, DL.opNe_str, DL.opIsN_n, DL.opNotN_n, DL.isN, DL.opIsB_b, DL.opNotB_b, DL.opNeg_i, DL.bAbs_i, DL.bMax_i, DL.bMin_i, DL.bInt_i, DL.bGcd_i, DL.bLen_l, DL.bLen_t, DL.opAdd_t, DL.opAdd_l, DL.opIx_l, DL.opIx_t, DL.opSl_t, DL.opSl_l, DL.opRev_t, DL.opRev_l, DL.bList_l, DL.bList_t, DL.bTup_l, DL.bTup_t, DL.atI0, DL.atI1, DL.atI2, DL.atI3, DL.items_t, DL.items_l]
  refine ⟨t, v, f, rfl, q1, q2, q3, fun h1 h2 h3 => ⟨⟨_, rfl⟩, ?_⟩⟩
  obtain ⟨z1, z2, z3, q⟩ := q4 h1 h2 h3
  obtain ⟨a, b, x, y, p, r, rfl, rfl, -⟩ := shot_inv h2
  obtain ⟨n, m, rfl, hm, -⟩ := frac_inv h3
  simp only [isTab, Bool.and_eq_true, decide_eq_true_eq] at h1
  exact ⟨a, b, x, y, p, r, n, m, rfl, h1.1, h1.2, hm, z1.1, z1.2, z2.1, z2.2.1, z2.2.2.1, z2.2.2.2, z3.1, z3.2, _, rfl, q⟩
section
variable {P : Program} {w : World} {K : PySem.W.Frag} {mg : Str → Option Value} {base : Heap} {CN : String → Option Addr}
theorem ok_way_at {f : Addr} {fd : FuncData} (F : Fun K "way_at" "way_at" s_way_at f fd) (g : G K mg CN) (c__check_all : CalP P w K mg base CN 7 "_check_all" D__check_all) (c__way : CalP P w K mg base CN 3 "_way" D__way) : FnG P w K mg base 8 f fd ["table", "shot", "time"] (spP K CN D_way_at) := by
  have sc := sc_way_at
  exact fun_okP (m := m_way_at) F sc (by decide) len_way_at (fun cdv A outer s H E C W hw hr tk =>
    (pds_cons (pds_drop (pd_call c__check_all hr (by decide) tk (pda_cons (dv 0) (pda_cons (dv 1) (pda_cons (dv 2) pda_nil)))))
    (pds_one (pds_ret (pdr_of (pd_call c__way hr (by decide) tk (pda_cons (dv 0) (pda_cons (dv 1) (pda_cons (dv 2) pda_nil))))))))) rd_way_at
end
end LW
namespace LW
open PySem PySem.Spec PyProof.Rows L2 DL
def m_shot_at (W : WD) : MS :=
  mSeq (mDrop (mCall D__check_all W (mCons (mVar 0) (mCons (mVar 1) (mCons (mVar 2) (mNil))))))
  (mSeq (mAsg (mCall D__place W (mCons (mVar 0) (mCons (mVar 1) (mCons (mVar 2) (mNil))))) (mgTup 2 (mgCons (mgTup 2 (mgCons (mgName 3) (mgCons (mgName 4) (mgNil)))) (mgCons (mgTup 2 (mgCons (mgName 5) (mgCons (mgName 6) (mgNil)))) (mgNil)))))
  (mSeq (mIf (mTOr (mT (mOp2 opNe (mVar 4) (mC (.int 1)))) (mT (mOp2 opNe (mVar 6) (mC (.int 1))))) (mRet (mrOf (mC .none))) (mNext))
  (mSeq (mAsg (mCall D__way W (mCons (mVar 0) (mCons (mVar 1) (mCons (mVar 2) (mNil))))) (mgTup 2 (mgCons (mgName 7) (mgCons (mgName 8) (mgNil)))))
  (mRet (mrOf (mTup (mCons (mVar 3) (mCons (mVar 5) (mCons (mVar 7) (mCons (mVar 8) (mNil)))))))))))
def pairN : PyData → Int × Int
  | .tuple [.int a, .int b] => (a, b)
  | _ => (0, 0)
theorem place_pair {s a v n m : Int} (hs : 1 ≤ s) (hm : 1 ≤ m) : placeN s a v n m = .tuple [.int (pairN (placeN s a v n m)).1, .int (pairN (placeN s a v n m)).2] := by
  obtain ⟨R, k, e, _⟩ := fold_is (T := (lineA v a * m + lineV v * n) / (Nat.gcd (lineA v a * m + lineV v * n).natAbs m.natAbs : Nat)) hs (div_gcd_pos (t := lineA v a * m + lineV v * n) hm)
  have e2 : placeN s a v n m = _ := e
  rw [e2]
  rfl
def shotN (a b x y p q n m : Int) : PyData := if (pairN (placeN a x p n m)).2 = 1 ∧ (pairN (placeN b y q n m)).2 = 1 then .tuple [.int (pairN (placeN a x p n m)).1, .int (pairN (placeN b y q n m)).1, .int (wayN a x p n m), .int (wayN b y q n m)] else .none
def shotD : PyData → PyData → PyData → PyData
  | .tuple [.int a, .int b], .tuple [.int x, .int y, .int p, .int q], .tuple [.int n, .int m] => shotN a b x y p q n m
  | _, _, _ => .none
def D_shot_at : PSpec := fun ds Q E => ∃ t v f, ds = [t, v, f] ∧ (isTab t = false → E "InvalidTable") ∧ (isTab t = true → isShot t v = false → E "InvalidShot") ∧ (isTab t = true → isShot t v = true → isFrac f = false → E "InvalidTime") ∧ (isTab t = true → isShot t v = true → isFrac f = true → szD t ∧ szD v ∧ szD f ∧ Q (.va (shotD t v f)))
theorem len_shot_at : ∀ ds Q E, D_shot_at ds Q E → ds.length = 3 := by
  rintro _ Q E ⟨t, v, f, rfl, _⟩
  rfl
theorem rd_shot_at : ∀ ds Q E, D_shot_at ds Q E → m_shot_at (fun c _ => E c) (endP Q) (slots0 9 ds) := by
  rintro _ Q E ⟨t, v, f, rfl, q1, q2, q3, q4⟩
  unfold m_shot_at
  simp only [DL.mSeq, DL.mAsg, DL.mAsgR, DL.mAsgM, DL.mrs, DL.ssets, DL.mIf, DL.mRet, DL.mRetN, DL.mrOf, DL.mrLst, DL.mrCat, DL.mrCall, DL.mDrop, DL.mNext, DL.mBreak, DL.mCont, DL.mC, DL.mVar, DL.mOp2, DL.mOp1, DL.mAnd, DL.mOr, DL.mNot, DL.mIfE, DL.mChain, DL.mNil, DL.mCons, DL.mTup, DL.mLst, DL.mCallB, DL.mDict0, DL.mPart, DL.mNoPart, DL.mSl, DL.mCall, DL.mCallK, DL.mCallW, DL.mLenScr, DL.mWell, DL.mT, DL.mTAnd, DL.mTOr, DL.mTNot, DL.mTYes, DL.mgName, DL.mgNil_n, DL.mgCons_c, DL.mgTup_t, DL.mgTup_l, DL.miSeq, DL.miRng1, DL.miRng2, DL.mRaise, DL.mApp, DL.mFor, DL.mLc, DL.mrLc, DL.sget, DL.sset, DL.slots0, DL.slotsW, DL.endP, DL.endW, DL.endL, DL.wF, DL.fz_va, DL.fz_own, List.length_cons, List.length_nil, List.map_cons, List.map_nil, List.replicate_succ, List.replicate_zero, Nat.reduceAdd, Nat.reduceSub, Nat.reduceLeDiff, List.cons_append, List.nil_append, Nat.zero_add, Nat.add_zero, Nat.sub_self, Option.some.injEq, PyData.bool.injEq, PyData.int.injEq, PyData.tuple.injEq, PyData.list.injEq, PyData.str.injEq, List.cons.injEq, DL.S.va.injEq, DL.S.own.injEq, DL.S.well.injEq, DL.S.scr.injEq, and_true, true_and, exists_eq_left', exists_eq_left, exists_eq_right, exists_eq_right', exists_and_left, exists_and_right, exists_eq, exists_eq', reduceCtorEq, false_and, and_false, exists_const, if_true, if_false, Bool.false_eq_true, reduceIte, Bool.not_true, Bool.not_false, DL.bIsi, List.any_cons, List.any_nil, Bool.or_false, Bool.or_true, Bool.false_or, Bool.true_or, DL.isK, DL.opAdd_i, DL.opSub_i, DL.opLt_i, DL.opLe_i, DL.opGt_i, DL.opGe_i, DL.opEq_int, DL.opNe_int, DL.opEq_b, DL.opNe_b, DL.opEq_nn, beq_self_eq_true, DL.opEq_str, DL.opNe_str, DL.opIsN_n, DL.opNotN_n, DL.isN, DL.opIsB_b, DL.opNotB_b, DL.opNeg_i, DL.bAbs_i, DL.bMax_i, DL.bMin_i, DL.bInt_i, DL.bGcd_i, DL.bLen_l, DL.bLen_t, DL.opAdd_t, DL.opAdd_l, DL.opIx_l, DL.opIx_t, DL.opSl_t, DL.opSl_l, DL.opRev_t, DL.opRev_l, DL.bList_l, DL.bList_t, DL.bTup_l, DL.bTup_t, DL.atI0, DL.atI1, DL.atI2, DL.atI3, DL.items_t, DL.items_l]
  refine ⟨t, v, f, rfl, q1, q2, q3, fun h1 h2 h3 => ⟨⟨_, rfl⟩, ?_⟩⟩
  obtain ⟨z1, z2, z3, q⟩ := q4 h1 h2 h3
  obtain ⟨a, b, x, y, p, r, rfl, rfl, -⟩ := shot_inv h2
  obtain ⟨n, m, rfl, hm, -⟩ := frac_inv h3
  simp only [isTab, Bool.and_eq_true, decide_eq_true_eq] at h1
  refine ⟨a, b, x, y, p, r, n, m, rfl, h1.1, h1.2, hm, z1.1, z1.2, z2.1, z2.2.1, z2.2.2.1, z2.2.2.2, z3.1, z3.2, _, rfl, ?_⟩
  rw [place_pair (a := x) (v := p) (n := n) h1.1 hm, place_pair (a := y) (v := r) (n := n) h1.2 hm]
  have q' : Q (.va (shotN a b x y p r n m)) := q
  unfold shotN at q'
  generalize pairN (placeN a x p n m) = A at *
  generalize pairN (placeN b y r n m) = B at *
  simp only [DL.mSeq, DL.mAsg, DL.mAsgR, DL.mAsgM, DL.mrs, DL.ssets, DL.mIf, DL.mRet, DL.mRetN, DL.mrOf, DL.mrLst, DL.mrCat, DL.mrCall, DL.mDrop, DL.mNext, DL.mBreak, DL.mCont, DL.mC, DL.mVar, DL.mOp2, DL.mOp1, DL.mAnd, DL.mOr, DL.mNot, DL.mIfE, DL.mChain, DL.mNil, DL.mCons, DL.mTup, DL.mLst, DL.mCallB, DL.mDict0, DL.mPart, DL.mNoPart, DL.mSl, DL.mCall, DL.mCallK, DL.mCallW, DL.mLenScr, DL.mWell, DL.mT, DL.mTAnd, DL.mTOr, DL.mTNot, DL.mTYes, DL.mgName, DL.mgNil_n, DL.mgCons_c, DL.mgTup_t, DL.mgTup_l, DL.miSeq, DL.miRng1, DL.miRng2, DL.mRaise, DL.mApp, DL.mFor, DL.mLc, DL.mrLc, DL.sget, DL.sset, DL.slots0, DL.slotsW, DL.endP, DL.endW, DL.endL, DL.wF, DL.fz_va, DL.fz_own, List.length_cons, List.length_nil, List.map_cons, List.map_nil, List.replicate_succ, List.replicate_zero, Nat.reduceAdd, Nat.reduceSub, Nat.reduceLeDiff, List.cons_append, List.nil_append, Nat.zero_add, Nat.add_zero, Nat.sub_self, Option.some.injEq, PyData.bool.injEq, PyData.int.injEq, PyData.tuple.injEq, PyData.list.injEq, PyData.str.injEq, List.cons.injEq, DL.S.va.injEq, DL.S.own.injEq, DL.S.well.injEq, DL.S.scr.injEq, and_true, true_and, exists_eq_left', exists_eq_left, exists_eq_right, exists_eq_right', exists_and_left, exists_and_right, exists_eq, exists_eq', reduceCtorEq, false_and, and_false, exists_const, if_true, if_false, Bool.false_eq_true, reduceIte, Bool.not_true, Bool.not_false, DL.bIsi, List.any_cons, List.any_nil, Bool.or_false, Bool.or_true, Bool.false_or, Bool.true_or, DL.isK, DL.opAdd_i, DL.opSub_i, DL.opLt_i, DL.opLe_i, DL.opGt_i, DL.opGe_i, DL.opEq_int, DL.opNe_int, DL.opEq_b, DL.opNe_b, DL.opEq_nn, beq_self_eq_true, DL.opEq_str, DL.opNe_str, DL.opIsN_n, DL.opNotN_n, DL.isN, DL.opIsB_b, DL.opNotB_b, DL.opNeg_i, DL.bAbs_i, DL.bMax_i, DL.bMin_i, DL.bInt_i, DL.bGcd_i, DL.bLen_l, DL.bLen_t, DL.opAdd_t, DL.opAdd_l, DL.opIx_l, DL.opIx_t, DL.opSl_t, DL.opSl_l, DL.opRev_t, DL.opRev_l, DL.bList_l, DL.bList_t, DL.bTup_l, DL.bTup_t, DL.atI0, DL.atI1, DL.atI2, DL.atI3, DL.items_t, DL.items_l]
  by_cases hA : A.2 = 1
  · rw [if_neg (by simp [hA])]
    by_cases hB : B.2 = 1
    · rw [if_neg (by simp [hB])]
      refine ⟨a, b, x, y, p, r, n, m, rfl, h1.1, h1.2, hm, z1.1, z1.2, z2.1, z2.2.1, z2.2.2.1, z2.2.2.2, z3.1, z3.2, _, rfl, ?_⟩
      simp only [DL.mSeq, DL.mAsg, DL.mAsgR, DL.mAsgM, DL.mrs, DL.ssets, DL.mIf, DL.mRet, DL.mRetN, DL.mrOf, DL.mrLst, DL.mrCat, DL.mrCall, DL.mDrop, DL.mNext, DL.mBreak, DL.mCont, DL.mC, DL.mVar, DL.mOp2, DL.mOp1, DL.mAnd, DL.mOr, DL.mNot, DL.mIfE, DL.mChain, DL.mNil, DL.mCons, DL.mTup, DL.mLst, DL.mCallB, DL.mDict0, DL.mPart, DL.mNoPart, DL.mSl, DL.mCall, DL.mCallK, DL.mCallW, DL.mLenScr, DL.mWell, DL.mT, DL.mTAnd, DL.mTOr, DL.mTNot, DL.mTYes, DL.mgName, DL.mgNil_n, DL.mgCons_c, DL.mgTup_t, DL.mgTup_l, DL.miSeq, DL.miRng1, DL.miRng2, DL.mRaise, DL.mApp, DL.mFor, DL.mLc, DL.mrLc, DL.sget, DL.sset, DL.slots0, DL.slotsW, DL.endP, DL.endW, DL.endL, DL.wF, DL.fz_va, DL.fz_own, List.length_cons, List.length_nil, List.map_cons, List.map_nil, List.replicate_succ, List.replicate_zero, Nat.reduceAdd, Nat.reduceSub, Nat.reduceLeDiff, List.cons_append, List.nil_append, Nat.zero_add, Nat.add_zero, Nat.sub_self, Option.some.injEq, PyData.bool.injEq, PyData.int.injEq, PyData.tuple.injEq, PyData.list.injEq, PyData.str.injEq, List.cons.injEq, DL.S.va.injEq, DL.S.own.injEq, DL.S.well.injEq, DL.S.scr.injEq, and_true, true_and, exists_eq_left', exists_eq_left, exists_eq_right, exists_eq_right', exists_and_left, exists_and_right, exists_eq, exists_eq', reduceCtorEq, false_and, and_false, exists_const, if_true, if_false, Bool.false_eq_true, reduceIte, Bool.not_true, Bool.not_false, DL.bIsi, List.any_cons, List.any_nil, Bool.or_false, Bool.or_true, Bool.false_or, Bool.true_or, DL.isK, DL.opAdd_i, DL.opSub_i, DL.opLt_i, DL.opLe_i, DL.opGt_i, DL.opGe_i, DL.opEq_int, DL.opNe_int, DL.opEq_b, DL.opNe_b, DL.opEq_nn, beq_self_eq_true, DL.opEq_str, DL.opNe_str, DL.opIsN_n, DL.opNotN_n, DL.isN, DL.opIsB_b, DL.opNotB_b, DL.opNeg_i, DL.bAbs_i, DL.bMax_i, DL.bMin_i, DL.bInt_i, DL.bGcd_i, DL.bLen_l, DL.bLen_t, DL.opAdd_t, DL.opAdd_l, DL.opIx_l, DL.opIx_t, DL.opSl_t, DL.opSl_l, DL.opRev_t, DL.opRev_l, DL.bList_l, DL.bList_t, DL.bTup_l, DL.bTup_t, DL.atI0, DL.atI1, DL.atI2, DL.atI3, DL.items_t, DL.items_l]
      rw [if_pos ⟨hA, hB⟩] at q'
      exact q'
    · rw [if_pos (by simpa using hB)]
      rw [if_neg (fun h => hB h.2)] at q'
      exact q'
  · rw [if_pos (by simpa using hA)]
    rw [if_neg (fun h => hA h.1)] at q'
    exact q'
section
variable {P : Program} {w : World} {K : PySem.W.Frag} {mg : Str → Option Value} {base : Heap} {CN : String → Option Addr}
theorem ok_shot_at {f : Addr} {fd : FuncData} (F : Fun K "shot_at" "shot_at" s_shot_at f fd) (g : G K mg CN) (c__check_all : CalP P w K mg base CN 7 "_check_all" D__check_all) (c__place : CalP P w K mg base CN 3 "_place" D__place) (c__way : CalP P w K mg base CN 3 "_way" D__way) : FnG P w K mg base 8 f fd ["table", "shot", "time"] (spP K CN D_shot_at) := by
  have sc := sc_shot_at
  exact fun_okP (m := m_shot_at) F sc (by decide) len_shot_at (fun cdv A outer s H E C W hw hr tk =>
    (pds_cons (pds_drop (pd_call c__check_all hr (by decide) tk (pda_cons (dv 0) (pda_cons (dv 1) (pda_cons (dv 2) pda_nil)))))
    (pds_cons (pds_asg (ps_asg (pd_call c__place hr (by decide) tk (pda_cons (dv 0) (pda_cons (dv 1) (pda_cons (dv 2) pda_nil)))) (pdg_tup rfl (gcons (pdg_tup rfl (gcons (dg 3 sc.nd) (gcons (dg 4 sc.nd) pdgs_nil))) (gcons (pdg_tup rfl (gcons (dg 5 sc.nd) (gcons (dg 6 sc.nd) pdgs_nil))) pdgs_nil)))))
    (pds_cons (pds_if (pdt_ofw (pdw_or (pdt_cmp (or_neD (RoomG.u64 hr)) rl_ne (dv 4) pd_int (nomark _)) (pdw_or1 (pdt_cmp (or_neD (RoomG.u64 hr)) rl_ne (dv 6) pd_int (nomark _))))) (pds_one (pds_ret (pdr_of pd_non))) pds_nil)
    (pds_cons (pds_asg (ps_asg (pd_call c__way hr (by decide) tk (pda_cons (dv 0) (pda_cons (dv 1) (pda_cons (dv 2) pda_nil)))) (pdg_tup rfl (gcons (dg 7 sc.nd) (gcons (dg 8 sc.nd) pdgs_nil)))))
    (pds_one (pds_ret (pdr_of (pd_tup (pda_cons (dv 3) (pda_cons (dv 5) (pda_cons (dv 7) (pda_cons (dv 8) pda_nil))))))))))))) rd_shot_at
end
end LW
namespace LW
open PySem PySem.Spec PyProof.Rows L2 DL
def m__law_same (D0 : PSpec) (W : WD) : MS :=
  mSeq (mIf (mTOr (mT (mOp1 (bIsi [.kBool]) (mVar 0))) (mT (mOp1 (bIsi [.kBool]) (mVar 1)))) (mRet (mrOf (mAnd (mOp1 (bIsi [.kBool]) (mVar 0)) (mAnd (mOp1 (bIsi [.kBool]) (mVar 1)) (mOp2 opEq (mVar 0) (mVar 1)))))) (mNext))
  (mSeq (mIf (mT (mOp2 opNe (mOp1 (bIsi [.kLst]) (mVar 0)) (mOp1 (bIsi [.kLst]) (mVar 1)))) (mRet (mrOf (mC (.bool false)))) (mNext))
  (mSeq (mIf (mTAnd (mT (mOp1 (bIsi [.kLst, .kTup]) (mVar 0))) (mT (mOp1 (bIsi [.kLst, .kTup]) (mVar 1)))) (mSeq (mIf (mT (mOp2 opNe (mCallB bLen (mCons (mVar 0) (mNil))) (mCallB bLen (mCons (mVar 1) (mNil))))) (mRet (mrOf (mC (.bool false)))) (mNext))
  (mRet (mrOf (mOp2 opEq (mLc (miRng1 (mCons (mCallB bLen (mCons (mVar 1) (mNil))) (mNil))) (mgName 2) (mTNot (mT (mCall D0 wF (mCons (mOp2 opIx (mVar 0) (mVar 2)) (mCons (mOp2 opIx (mVar 1) (mVar 2)) (mNil)))))) (mVar 2) [2]) (mLst (mNil)))))) (mNext))
  (mRet (mrOf (mAnd (mOp2 opEq (mVar 0) (mVar 1)) (mOp2 opEq (mOp1 (bIsi [.kInt]) (mVar 0)) (mOp1 (bIsi [.kInt]) (mVar 1))))))))
/-- numbers, none, and lists and tuples of these, not deep -/
def sd : Nat → PyData → Bool
  | 0, _ => false
  | j + 1, .list xs => decide (xs.length ≤ 1000) && xs.all (sd j)
  | j + 1, .tuple xs => decide (xs.length ≤ 1000) && xs.all (sd j)
  | _ + 1, .int _ => true
  | _ + 1, .none => true
  | _ + 1, .bool _ => true
  | _ + 1, _ => false
def D__law_same (j : Nat) : PSpec := fun ds Q _ => ∃ d, ds = [d, d] ∧ sd j d = true ∧ Q (.va (.bool true))
theorem never__law_same : ∀ ds Q E, ¬ D__law_same 0 ds Q E := by
  rintro _ Q E ⟨d, _, h, _⟩
  cases h
theorem len__law_same : ∀ j ds Q E, D__law_same j ds Q E → ds.length = 2 := by
  rintro j _ Q E ⟨d, rfl, _⟩
  rfl
theorem eqv_all {xs : List PyData} (h : ∀ x ∈ xs, PyData.eqv x x = true) : PyData.eqvAll xs xs = true := by
  induction xs with
  | nil => rfl
  | cons x xs ih => simp [PyData.eqvAll, h x (by simp), ih fun y hy => h y (by simp [hy])]
theorem lay_all {xs : List PyData} {j : Nat} (h : ∀ x ∈ xs, x.canLay0 = true ∧ x.depth ≤ j) : PyData.canLayAll0 xs = true ∧ PyData.depthAll xs ≤ j := by
  induction xs with
  | nil => exact ⟨rfl, by simp [PyData.depthAll]⟩
  | cons x xs ih =>
    have h1 := h x (by simp)
    have h2 := ih fun y hy => h y (by simp [hy])
    refine ⟨by simp [PyData.canLayAll0, h1.1, h2.1], ?_⟩
    simp only [PyData.depthAll]
    omega
theorem sd_ok : ∀ (j : Nat) (d : PyData), sd j d = true → d.canLay0 = true ∧ d.depth ≤ j ∧ PyData.eqv d d = true
  | 0, _, h => by cases h
  | j + 1, .list xs, h => by
    simp only [sd, Bool.and_eq_true, List.all_eq_true] at h
    have ih : ∀ x ∈ xs, _ := fun x hx => sd_ok j x (h.2 x hx)
    have a := lay_all (xs := xs) (j := j) fun x hx => ⟨(ih x hx).1, (ih x hx).2.1⟩
    refine ⟨by simp [PyData.canLay0, a.1], by simp only [PyData.depth]; omega, ?_⟩
    simp only [PyData.eqv]
    exact eqv_all fun x hx => (ih x hx).2.2
  | j + 1, .tuple xs, h => by
    simp only [sd, Bool.and_eq_true, List.all_eq_true] at h
    have ih : ∀ x ∈ xs, _ := fun x hx => sd_ok j x (h.2 x hx)
    have a := lay_all (xs := xs) (j := j) fun x hx => ⟨(ih x hx).1, (ih x hx).2.1⟩
    refine ⟨by simp [PyData.canLay0, a.1], by simp only [PyData.depth]; omega, ?_⟩
    simp only [PyData.eqv]
    exact eqv_all fun x hx => (ih x hx).2.2
  | j + 1, .int i, _ => ⟨rfl, by simp [PyData.depth], by simp [PyData.eqv]⟩
  | j + 1, .none, _ => ⟨rfl, by simp [PyData.depth], by simp [PyData.eqv]⟩
  | j + 1, .bool b, _ => ⟨rfl, by simp [PyData.depth], by simp [PyData.eqv]⟩
  | j + 1, .str z, h => by simp [sd] at h
  | j + 1, .dict kvs, h => by simp [sd] at h
theorem opEq_self {j : Nat} {d : PyData} (hj : j ≤ 60) (h : sd j d = true) : opEq d d = some (.bool true) := by
  have k := sd_ok j d h
  have e : SeqAt.shaped d = true := by
    unfold SeqAt.shaped
    rw [k.1, decide_eq_true (by omega)]
    rfl
  unfold opEq
  rw [e, k.2.2]
  rfl
theorem opNe_self {j : Nat} {d : PyData} (hj : j ≤ 60) (h : sd j d = true) : opNe d d = some (.bool false) := by
  have k := sd_ok j d h
  have e : SeqAt.shaped d = true := by
    unfold SeqAt.shaped
    rw [k.1, decide_eq_true (by omega)]
    rfl
  unfold opNe
  rw [e, k.2.2]
  rfl
theorem same_items {j : Nat} {xs : List PyData} {d : PyData} {Q : List PyData → DSt → Prop} (hi : ∀ i : Int, opIx d (.int i) = DL.atI xs i) (hx : xs.all (sd j) = true) (hl : xs.length ≤ 1000) (q : ∀ s, Q [] s) :
    lcL (mgName 2) (mTNot (mT (mCall (D__law_same j) wF (mCons (mOp2 opIx (mVar 0) (mVar 2)) (mCons (mOp2 opIx (mVar 1) (mVar 2)) mNil))))) (mVar 2) [2] Q (rangeL 0 xs.length) [.va d, .va d, .no] [] := by
  refine lcL_run (fun s => ∃ x, s = [.va d, .va d, x]) (fun _ => none) _ ?_ _ [] ⟨_, rfl⟩ (by simp [rangeL]; omega) ?_
  · rintro e he s ⟨x, rfl⟩ Y N hY hN
    unfold rangeL at he
    obtain ⟨i, hi2, rfl⟩ := List.mem_map.mp he
    have hi3 := List.mem_range.mp hi2
    obtain ⟨y, hy, ey⟩ := DL.atI_mem (xs := xs) (r := 0 + (i : Int)) (by omega) (by omega)
    simp only [swipe, sset]
    simp only [DL.mSeq, DL.mAsg, DL.mAsgR, DL.mAsgM, DL.mrs, DL.ssets, DL.mIf, DL.mRet, DL.mRetN, DL.mrOf, DL.mrLst, DL.mrCat, DL.mrCall, DL.mDrop, DL.mNext, DL.mBreak, DL.mCont, DL.mC, DL.mVar, DL.mOp2, DL.mOp1, DL.mAnd, DL.mOr, DL.mNot, DL.mIfE, DL.mChain, DL.mNil, DL.mCons, DL.mTup, DL.mLst, DL.mCallB, DL.mDict0, DL.mPart, DL.mNoPart, DL.mSl, DL.mCall, DL.mCallK, DL.mCallW, DL.mLenScr, DL.mWell, DL.mT, DL.mTAnd, DL.mTOr, DL.mTNot, DL.mTYes, DL.mgName, DL.mgNil_n, DL.mgCons_c, DL.mgTup_t, DL.mgTup_l, DL.miSeq, DL.miRng1, DL.miRng2, DL.mRaise, DL.mApp, DL.mFor, DL.mLc, DL.mrLc, DL.sget, DL.sset, DL.slots0, DL.slotsW, DL.endP, DL.endW, DL.endL, DL.wF, DL.fz_va, DL.fz_own, List.length_cons, List.length_nil, List.map_cons, List.map_nil, List.replicate_succ, List.replicate_zero, Nat.reduceAdd, Nat.reduceSub, Nat.reduceLeDiff, List.cons_append, List.nil_append, Nat.zero_add, Nat.add_zero, Nat.sub_self, Option.some.injEq, PyData.bool.injEq, PyData.int.injEq, PyData.tuple.injEq, PyData.list.injEq, PyData.str.injEq, List.cons.injEq, DL.S.va.injEq, DL.S.own.injEq, DL.S.well.injEq, DL.S.scr.injEq, and_true, true_and, exists_eq_left', exists_eq_left, exists_eq_right, exists_eq_right', exists_and_left, exists_and_right, exists_eq, exists_eq', reduceCtorEq, false_and, and_false, exists_const, if_true, if_false, Bool.false_eq_true, reduceIte, Bool.not_true, Bool.not_false, DL.bIsi, List.any_cons, List.any_nil, Bool.or_false, Bool.or_true, Bool.false_or, Bool.true_or, DL.isK, DL.opAdd_i, DL.opSub_i, DL.opLt_i, DL.opLe_i, DL.opGt_i, DL.opGe_i, DL.opEq_int, DL.opNe_int, DL.opEq_b, DL.opNe_b, DL.opEq_nn, beq_self_eq_true, DL.opEq_str, DL.opNe_str, DL.opIsN_n, DL.opNotN_n, DL.isN, DL.opIsB_b, DL.opNotB_b, DL.opNeg_i, DL.bAbs_i, DL.bMax_i, DL.bMin_i, DL.bInt_i, DL.bGcd_i, DL.bLen_l, DL.bLen_t, DL.opAdd_t, DL.opAdd_l, DL.opIx_l, DL.opIx_t, DL.opSl_t, DL.opSl_l, DL.opRev_t, DL.opRev_l, DL.bList_l, DL.bList_t, DL.bTup_l, DL.bTup_t, DL.atI0, DL.atI1, DL.atI2, DL.atI3, DL.items_t, DL.items_l]
    refine ⟨y, (hi _).trans ey, y, (hi _).trans ey, y, rfl, (List.all_eq_true.mp hx) y hy, _, rfl, _, rfl, ?_⟩
    exact hN _ rfl ⟨_, rfl⟩
  · rintro s ⟨x, rfl⟩
    have e : ∀ l : List PyData, l.filterMap (fun _ => (none : Option PyData)) = [] := fun l => by
      induction l with
      | nil => rfl
      | cons x l ih => simpa using ih
    rw [e]
    exact q _
theorem rd__law_same : ∀ j ds Q E, D__law_same (j + 1) ds Q E → m__law_same (D__law_same j) (fun c _ => E c) (endP Q) (slots0 3 ds) := by
  rintro j _ Q E ⟨d, rfl, h, q⟩
  have z : opEq (.list []) (.list []) = some (.bool true) := opEq_self (j := 1) (by decide) rfl
  unfold m__law_same
  cases d with
  | int i =>
    simp only [DL.mSeq, DL.mAsg, DL.mAsgR, DL.mAsgM, DL.mrs, DL.ssets, DL.mIf, DL.mRet, DL.mRetN, DL.mrOf, DL.mrLst, DL.mrCat, DL.mrCall, DL.mDrop, DL.mNext, DL.mBreak, DL.mCont, DL.mC, DL.mVar, DL.mOp2, DL.mOp1, DL.mAnd, DL.mOr, DL.mNot, DL.mIfE, DL.mChain, DL.mNil, DL.mCons, DL.mTup, DL.mLst, DL.mCallB, DL.mDict0, DL.mPart, DL.mNoPart, DL.mSl, DL.mCall, DL.mCallK, DL.mCallW, DL.mLenScr, DL.mWell, DL.mT, DL.mTAnd, DL.mTOr, DL.mTNot, DL.mTYes, DL.mgName, DL.mgNil_n, DL.mgCons_c, DL.mgTup_t, DL.mgTup_l, DL.miSeq, DL.miRng1, DL.miRng2, DL.mRaise, DL.mApp, DL.mFor, DL.mLc, DL.mrLc, DL.sget, DL.sset, DL.slots0, DL.slotsW, DL.endP, DL.endW, DL.endL, DL.wF, DL.fz_va, DL.fz_own, List.length_cons, List.length_nil, List.map_cons, List.map_nil, List.replicate_succ, List.replicate_zero, Nat.reduceAdd, Nat.reduceSub, Nat.reduceLeDiff, List.cons_append, List.nil_append, Nat.zero_add, Nat.add_zero, Nat.sub_self, Option.some.injEq, PyData.bool.injEq, PyData.int.injEq, PyData.tuple.injEq, PyData.list.injEq, PyData.str.injEq, List.cons.injEq, DL.S.va.injEq, DL.S.own.injEq, DL.S.well.injEq, DL.S.scr.injEq, and_true, true_and, exists_eq_left', exists_eq_left, exists_eq_right, exists_eq_right', exists_and_left, exists_and_right, exists_eq, exists_eq', reduceCtorEq, false_and, and_false, exists_const, if_true, if_false, Bool.false_eq_true, reduceIte, Bool.not_true, Bool.not_false, DL.bIsi, List.any_cons, List.any_nil, Bool.or_false, Bool.or_true, Bool.false_or, Bool.true_or, DL.isK, DL.opAdd_i, DL.opSub_i, DL.opLt_i, DL.opLe_i, DL.opGt_i, DL.opGe_i, DL.opEq_int, DL.opNe_int, DL.opEq_b, DL.opNe_b, DL.opEq_nn, beq_self_eq_true, DL.opEq_str, DL.opNe_str, DL.opIsN_n, DL.opNotN_n, DL.isN, DL.opIsB_b, DL.opNotB_b, DL.opNeg_i, DL.bAbs_i, DL.bMax_i, DL.bMin_i, DL.bInt_i, DL.bGcd_i, DL.bLen_l, DL.bLen_t, DL.opAdd_t, DL.opAdd_l, DL.opIx_l, DL.opIx_t, DL.opSl_t, DL.opSl_l, DL.opRev_t, DL.opRev_l, DL.bList_l, DL.bList_t, DL.bTup_l, DL.bTup_t, DL.atI0, DL.atI1, DL.atI2, DL.atI3, DL.items_t, DL.items_l]
    rw [if_pos (by simp)]
    exact q
  | none =>
    simp only [DL.mSeq, DL.mAsg, DL.mAsgR, DL.mAsgM, DL.mrs, DL.ssets, DL.mIf, DL.mRet, DL.mRetN, DL.mrOf, DL.mrLst, DL.mrCat, DL.mrCall, DL.mDrop, DL.mNext, DL.mBreak, DL.mCont, DL.mC, DL.mVar, DL.mOp2, DL.mOp1, DL.mAnd, DL.mOr, DL.mNot, DL.mIfE, DL.mChain, DL.mNil, DL.mCons, DL.mTup, DL.mLst, DL.mCallB, DL.mDict0, DL.mPart, DL.mNoPart, DL.mSl, DL.mCall, DL.mCallK, DL.mCallW, DL.mLenScr, DL.mWell, DL.mT, DL.mTAnd, DL.mTOr, DL.mTNot, DL.mTYes, DL.mgName, DL.mgNil_n, DL.mgCons_c, DL.mgTup_t, DL.mgTup_l, DL.miSeq, DL.miRng1, DL.miRng2, DL.mRaise, DL.mApp, DL.mFor, DL.mLc, DL.mrLc, DL.sget, DL.sset, DL.slots0, DL.slotsW, DL.endP, DL.endW, DL.endL, DL.wF, DL.fz_va, DL.fz_own, List.length_cons, List.length_nil, List.map_cons, List.map_nil, List.replicate_succ, List.replicate_zero, Nat.reduceAdd, Nat.reduceSub, Nat.reduceLeDiff, List.cons_append, List.nil_append, Nat.zero_add, Nat.add_zero, Nat.sub_self, Option.some.injEq, PyData.bool.injEq, PyData.int.injEq, PyData.tuple.injEq, PyData.list.injEq, PyData.str.injEq, List.cons.injEq, DL.S.va.injEq, DL.S.own.injEq, DL.S.well.injEq, DL.S.scr.injEq, and_true, true_and, exists_eq_left', exists_eq_left, exists_eq_right, exists_eq_right', exists_and_left, exists_and_right, exists_eq, exists_eq', reduceCtorEq, false_and, and_false, exists_const, if_true, if_false, Bool.false_eq_true, reduceIte, Bool.not_true, Bool.not_false, DL.bIsi, List.any_cons, List.any_nil, Bool.or_false, Bool.or_true, Bool.false_or, Bool.true_or, DL.isK, DL.opAdd_i, DL.opSub_i, DL.opLt_i, DL.opLe_i, DL.opGt_i, DL.opGe_i, DL.opEq_int, DL.opNe_int, DL.opEq_b, DL.opNe_b, DL.opEq_nn, beq_self_eq_true, DL.opEq_str, DL.opNe_str, DL.opIsN_n, DL.opNotN_n, DL.isN, DL.opIsB_b, DL.opNotB_b, DL.opNeg_i, DL.bAbs_i, DL.bMax_i, DL.bMin_i, DL.bInt_i, DL.bGcd_i, DL.bLen_l, DL.bLen_t, DL.opAdd_t, DL.opAdd_l, DL.opIx_l, DL.opIx_t, DL.opSl_t, DL.opSl_l, DL.opRev_t, DL.opRev_l, DL.bList_l, DL.bList_t, DL.bTup_l, DL.bTup_t, DL.atI0, DL.atI1, DL.atI2, DL.atI3, DL.items_t, DL.items_l]
    exact q
  | bool b =>
    simp only [DL.mSeq, DL.mAsg, DL.mAsgR, DL.mAsgM, DL.mrs, DL.ssets, DL.mIf, DL.mRet, DL.mRetN, DL.mrOf, DL.mrLst, DL.mrCat, DL.mrCall, DL.mDrop, DL.mNext, DL.mBreak, DL.mCont, DL.mC, DL.mVar, DL.mOp2, DL.mOp1, DL.mAnd, DL.mOr, DL.mNot, DL.mIfE, DL.mChain, DL.mNil, DL.mCons, DL.mTup, DL.mLst, DL.mCallB, DL.mDict0, DL.mPart, DL.mNoPart, DL.mSl, DL.mCall, DL.mCallK, DL.mCallW, DL.mLenScr, DL.mWell, DL.mT, DL.mTAnd, DL.mTOr, DL.mTNot, DL.mTYes, DL.mgName, DL.mgNil_n, DL.mgCons_c, DL.mgTup_t, DL.mgTup_l, DL.miSeq, DL.miRng1, DL.miRng2, DL.mRaise, DL.mApp, DL.mFor, DL.mLc, DL.mrLc, DL.sget, DL.sset, DL.slots0, DL.slotsW, DL.endP, DL.endW, DL.endL, DL.wF, DL.fz_va, DL.fz_own, List.length_cons, List.length_nil, List.map_cons, List.map_nil, List.replicate_succ, List.replicate_zero, Nat.reduceAdd, Nat.reduceSub, Nat.reduceLeDiff, List.cons_append, List.nil_append, Nat.zero_add, Nat.add_zero, Nat.sub_self, Option.some.injEq, PyData.bool.injEq, PyData.int.injEq, PyData.tuple.injEq, PyData.list.injEq, PyData.str.injEq, List.cons.injEq, DL.S.va.injEq, DL.S.own.injEq, DL.S.well.injEq, DL.S.scr.injEq, and_true, true_and, exists_eq_left', exists_eq_left, exists_eq_right, exists_eq_right', exists_and_left, exists_and_right, exists_eq, exists_eq', reduceCtorEq, false_and, and_false, exists_const, if_true, if_false, Bool.false_eq_true, reduceIte, Bool.not_true, Bool.not_false, DL.bIsi, List.any_cons, List.any_nil, Bool.or_false, Bool.or_true, Bool.false_or, Bool.true_or, DL.isK, DL.opAdd_i, DL.opSub_i, DL.opLt_i, DL.opLe_i, DL.opGt_i, DL.opGe_i, DL.opEq_int, DL.opNe_int, DL.opEq_b, DL.opNe_b, DL.opEq_nn, beq_self_eq_true, DL.opEq_str, DL.opNe_str, DL.opIsN_n, DL.opNotN_n, DL.isN, DL.opIsB_b, DL.opNotB_b, DL.opNeg_i, DL.bAbs_i, DL.bMax_i, DL.bMin_i, DL.bInt_i, DL.bGcd_i, DL.bLen_l, DL.bLen_t, DL.opAdd_t, DL.opAdd_l, DL.opIx_l, DL.opIx_t, DL.opSl_t, DL.opSl_l, DL.opRev_t, DL.opRev_l, DL.bList_l, DL.bList_t, DL.bTup_l, DL.bTup_t, DL.atI0, DL.atI1, DL.atI2, DL.atI3, DL.items_t, DL.items_l]
    exact q
  | list xs =>
    simp only [sd, Bool.and_eq_true, decide_eq_true_eq] at h
    simp only [DL.mSeq, DL.mAsg, DL.mAsgR, DL.mAsgM, DL.mrs, DL.ssets, DL.mIf, DL.mRet, DL.mRetN, DL.mrOf, DL.mrLst, DL.mrCat, DL.mrCall, DL.mDrop, DL.mNext, DL.mBreak, DL.mCont, DL.mC, DL.mVar, DL.mOp2, DL.mOp1, DL.mAnd, DL.mOr, DL.mNot, DL.mIfE, DL.mChain, DL.mNil, DL.mCons, DL.mTup, DL.mLst, DL.mCallB, DL.mDict0, DL.mPart, DL.mNoPart, DL.mSl, DL.mCall, DL.mCallK, DL.mCallW, DL.mLenScr, DL.mWell, DL.mT, DL.mTAnd, DL.mTOr, DL.mTNot, DL.mTYes, DL.mgName, DL.mgNil_n, DL.mgCons_c, DL.mgTup_t, DL.mgTup_l, DL.miSeq, DL.miRng1, DL.miRng2, DL.mRaise, DL.mApp, DL.mFor, DL.mLc, DL.mrLc, DL.sget, DL.sset, DL.slots0, DL.slotsW, DL.endP, DL.endW, DL.endL, DL.wF, DL.fz_va, DL.fz_own, List.length_cons, List.length_nil, List.map_cons, List.map_nil, List.replicate_succ, List.replicate_zero, Nat.reduceAdd, Nat.reduceSub, Nat.reduceLeDiff, List.cons_append, List.nil_append, Nat.zero_add, Nat.add_zero, Nat.sub_self, Option.some.injEq, PyData.bool.injEq, PyData.int.injEq, PyData.tuple.injEq, PyData.list.injEq, PyData.str.injEq, List.cons.injEq, DL.S.va.injEq, DL.S.own.injEq, DL.S.well.injEq, DL.S.scr.injEq, and_true, true_and, exists_eq_left', exists_eq_left, exists_eq_right, exists_eq_right', exists_and_left, exists_and_right, exists_eq, exists_eq', reduceCtorEq, false_and, and_false, exists_const, if_true, if_false, Bool.false_eq_true, reduceIte, Bool.not_true, Bool.not_false, DL.bIsi, List.any_cons, List.any_nil, Bool.or_false, Bool.or_true, Bool.false_or, Bool.true_or, DL.isK, DL.opAdd_i, DL.opSub_i, DL.opLt_i, DL.opLe_i, DL.opGt_i, DL.opGe_i, DL.opEq_int, DL.opNe_int, DL.opEq_b, DL.opNe_b, DL.opEq_nn, beq_self_eq_true, DL.opEq_str, DL.opNe_str, DL.opIsN_n, DL.opNotN_n, DL.isN, DL.opIsB_b, DL.opNotB_b, DL.opNeg_i, DL.bAbs_i, DL.bMax_i, DL.bMin_i, DL.bInt_i, DL.bGcd_i, DL.bLen_l, DL.bLen_t, DL.opAdd_t, DL.opAdd_l, DL.opIx_l, DL.opIx_t, DL.opSl_t, DL.opSl_l, DL.opRev_t, DL.opRev_l, DL.bList_l, DL.bList_t, DL.bTup_l, DL.bTup_t, DL.atI0, DL.atI1, DL.atI2, DL.atI3, DL.items_t, DL.items_l]
    rw [if_neg (by simp)]
    refine ⟨by omega, by omega, rfl, ?_⟩
    rw [Int.toNat_natCast]
    exact same_items (fun _ => rfl) h.2 h.1 fun _ => ⟨_, z, q⟩
  | tuple xs =>
    simp only [sd, Bool.and_eq_true, decide_eq_true_eq] at h
    simp only [DL.mSeq, DL.mAsg, DL.mAsgR, DL.mAsgM, DL.mrs, DL.ssets, DL.mIf, DL.mRet, DL.mRetN, DL.mrOf, DL.mrLst, DL.mrCat, DL.mrCall, DL.mDrop, DL.mNext, DL.mBreak, DL.mCont, DL.mC, DL.mVar, DL.mOp2, DL.mOp1, DL.mAnd, DL.mOr, DL.mNot, DL.mIfE, DL.mChain, DL.mNil, DL.mCons, DL.mTup, DL.mLst, DL.mCallB, DL.mDict0, DL.mPart, DL.mNoPart, DL.mSl, DL.mCall, DL.mCallK, DL.mCallW, DL.mLenScr, DL.mWell, DL.mT, DL.mTAnd, DL.mTOr, DL.mTNot, DL.mTYes, DL.mgName, DL.mgNil_n, DL.mgCons_c, DL.mgTup_t, DL.mgTup_l, DL.miSeq, DL.miRng1, DL.miRng2, DL.mRaise, DL.mApp, DL.mFor, DL.mLc, DL.mrLc, DL.sget, DL.sset, DL.slots0, DL.slotsW, DL.endP, DL.endW, DL.endL, DL.wF, DL.fz_va, DL.fz_own, List.length_cons, List.length_nil, List.map_cons, List.map_nil, List.replicate_succ, List.replicate_zero, Nat.reduceAdd, Nat.reduceSub, Nat.reduceLeDiff, List.cons_append, List.nil_append, Nat.zero_add, Nat.add_zero, Nat.sub_self, Option.some.injEq, PyData.bool.injEq, PyData.int.injEq, PyData.tuple.injEq, PyData.list.injEq, PyData.str.injEq, List.cons.injEq, DL.S.va.injEq, DL.S.own.injEq, DL.S.well.injEq, DL.S.scr.injEq, and_true, true_and, exists_eq_left', exists_eq_left, exists_eq_right, exists_eq_right', exists_and_left, exists_and_right, exists_eq, exists_eq', reduceCtorEq, false_and, and_false, exists_const, if_true, if_false, Bool.false_eq_true, reduceIte, Bool.not_true, Bool.not_false, DL.bIsi, List.any_cons, List.any_nil, Bool.or_false, Bool.or_true, Bool.false_or, Bool.true_or, DL.isK, DL.opAdd_i, DL.opSub_i, DL.opLt_i, DL.opLe_i, DL.opGt_i, DL.opGe_i, DL.opEq_int, DL.opNe_int, DL.opEq_b, DL.opNe_b, DL.opEq_nn, beq_self_eq_true, DL.opEq_str, DL.opNe_str, DL.opIsN_n, DL.opNotN_n, DL.isN, DL.opIsB_b, DL.opNotB_b, DL.opNeg_i, DL.bAbs_i, DL.bMax_i, DL.bMin_i, DL.bInt_i, DL.bGcd_i, DL.bLen_l, DL.bLen_t, DL.opAdd_t, DL.opAdd_l, DL.opIx_l, DL.opIx_t, DL.opSl_t, DL.opSl_l, DL.opRev_t, DL.opRev_l, DL.bList_l, DL.bList_t, DL.bTup_l, DL.bTup_t, DL.atI0, DL.atI1, DL.atI2, DL.atI3, DL.items_t, DL.items_l]
    rw [if_neg (by simp)]
    refine ⟨by omega, by omega, rfl, ?_⟩
    rw [Int.toNat_natCast]
    exact same_items (fun _ => rfl) h.2 h.1 fun _ => ⟨_, z, q⟩
  | _ => simp [sd] at h
section
variable {P : Program} {w : World} {K : PySem.W.Frag} {mg : Str → Option Value} {base : Heap} {CN : String → Option Addr}
theorem ok__law_same {f : Addr} {fd : FuncData} (F : Fun K "_law_same" "_law_same" s__law_same f fd) (gm : mg "_law_same" = some (.ref f)) (bb : Binds K fd ["found", "due"] []) (g : G K mg CN)  : ∀ j, FnG P w K mg base (j + 1) f fd ["found", "due"] (spP K CN (D__law_same j))
  | 0 => fn_never never__law_same
  | j + 1 => by
    have c__law_same : CalP P w K mg base CN (j + 1) "_law_same" (D__law_same j) := ⟨_, _, _, ok__law_same F gm bb g  j, gm, F.kp, bb⟩
    have sc := sc__law_same
    exact fun_okP (m := m__law_same (D__law_same j)) F sc (by decide) (len__law_same (j + 1)) (fun cdv A outer s H E C W hw hr tk =>
    (pds_cons (pds_if (pdt_ofw (pdw_or (pdt_val (pd_isi1 .kBool g.b_isinstance g.b_bool (dv 0))) (pdw_or1 (pdt_val (pd_isi1 .kBool g.b_isinstance g.b_bool (dv 1)))))) (pds_one (pds_ret (pdr_of (pd_and (pd_isi1 .kBool g.b_isinstance g.b_bool (dv 0)) (pd_and (pd_isi1 .kBool g.b_isinstance g.b_bool (dv 1)) (pd_one (pd_cmp (or_eqD (RoomG.u64 hr)) rl_eq (dv 0) (dv 1) (nomark _)))))))) pds_nil)
    (pds_cons (pds_if (pdt_cmp (or_neD (RoomG.u64 hr)) rl_ne (pd_isi1 .kLst g.b_isinstance g.b_list (dv 0)) (pd_isi1 .kLst g.b_isinstance g.b_list (dv 1)) (nomark _)) (pds_one (pds_ret (pdr_of pd_bl))) pds_nil)
    (pds_cons (pds_if (pdt_ofw (pdw_and (pdt_val (pd_isiT [.kLst, .kTup] g.b_isinstance (dv 0) (pe_types (pa_types .kLst g.b_list (pa_types .kTup g.b_tuple pa_types0)) (by decide)))) (pdw_and1 (pdt_val (pd_isiT [.kLst, .kTup] g.b_isinstance (dv 1) (pe_types (pa_types .kLst g.b_list (pa_types .kTup g.b_tuple pa_types0)) (by decide))))))) (pds_cons (pds_if (pdt_cmp (or_neD (RoomG.u64 hr)) rl_ne (pd_callB cr_len rc_len g.b_len (by decide +kernel) (pda_cons (dv 0) pda_nil)) (pd_callB cr_len rc_len g.b_len (by decide +kernel) (pda_cons (dv 1) pda_nil)) (nomark _)) (pds_one (pds_ret (pdr_of pd_bl))) pds_nil)
    (pds_one (pds_ret (pdr_of (pd_cmp (or_eqD (RoomG.u64 hr)) rl_eq (pd_lc (pe_lc (own := [("k", 2)]) rfl sc.nd (d_range1 g.b_range (pda_cons (pd_callB cr_len rc_len g.b_len (by decide +kernel) (pda_cons (dv 1) pda_nil)) pda_nil)) (blkOk_by (N := ["found", "due", "k"]) (sc := (defScope s__law_same)) (by decide +kernel)) (fun _ _ _ _ _ => (dgv 2 (vs := [2]) sc.nd)) (fun _ _ _ _ _ => (pdts_one (pdt_not (pdt_val (pd_call c__law_same hr (Nat.le_refl _) takesF (pda_cons (pd_ix ix_seq rl_ix (dv 0) (dv 2)) (pda_cons (pd_ix ix_seq rl_ix (dv 1) (dv 2)) pda_nil))))))) (fun _ _ _ _ _ => (dv 2)))) (pd_lst pda_nil) (nomark _)))))) pds_nil)
    (pds_one (pds_ret (pdr_of (pd_and (pd_cmp (or_eqD (RoomG.u64 hr)) rl_eq (dv 0) (dv 1) (nomark _)) (pd_one (pd_cmp (or_eqD (RoomG.u64 hr)) rl_eq (pd_isi1 .kInt g.b_isinstance g.b_int (dv 0)) (pd_isi1 .kInt g.b_isinstance g.b_int (dv 1)) (nomark _))))))))))) (rd__law_same j)
end
end LW
namespace LW
open PySem PySem.Spec PyProof.Rows L2 DL
def m__law_desk : MS :=
  mSeq (mAsg (mOp2 opAdd (mC (.int 1)) (mCallW dDraw 0 (mCons (mVar 1) (mNil)))) (mgName 2))
  (mSeq (mAsg (mOp2 opIx (mLst (mCons (mOp2 opAdd (mC (.int 1)) (mCallW dDraw 0 (mCons (mVar 1) (mNil)))) (mCons (mVar 2) (mCons (mOp2 opMul (mVar 2) (mC (.int 2))) (mCons (mOp2 opAdd (mC (.int 1)) (mCallW dDraw 0 (mCons (mC (.int 4)) (mNil)))) (mNil)))))) (mCallW dDraw 0 (mCons (mC (.int 4)) (mNil)))) (mgName 3))
  (mRet (mrOf (mTup (mCons (mVar 2) (mCons (mVar 3) (mNil)))))))
theorem log_wide {m : Int} (h1 : 1 ≤ m) (h : m < 2 ^ 200) : m.natAbs.log2 < 9000 := by
  refine (Nat.log2_lt (by omega)).mpr ?_
  have : m.natAbs < 2 ^ 200 := by omega
  exact Nat.lt_of_lt_of_le this (Nat.pow_le_pow_right (by decide) (by decide))
theorem dr {n : Nat} {m : Int} {Q : S → Nat → Prop} (h0 : 1 ≤ n) (h1 : 1 ≤ m) (h2 : m < 2 ^ 200) (k : ∀ r : Int, 0 ≤ r → r < m → Q (.va (.int r)) (n - 1)) : dDraw n [.int m] Q := ⟨m, rfl, h0, h1, log_wide h1 h2, k⟩
theorem small2 {a b : Int} (ha : a.natAbs < 2 ^ 200) (hb : b.natAbs < 2 ^ 200) : small a b = true := by
  have lg : ∀ z : Int, z.natAbs < 2 ^ 200 → z.natAbs.log2 < 200 := fun z hz => by
    by_cases h0 : z.natAbs = 0
    · rw [h0]; decide
    · exact (Nat.log2_lt h0).mpr hz
  unfold small
  have := lg a ha
  have := lg b hb
  exact decide_eq_true (by omega)
def D__law_desk : WSpec := fun n ds Q => ∃ m, ds = [.int m] ∧ 4 ≤ n ∧ 1 ≤ m ∧ m < 2 ^ 150 ∧ ∀ a b n', n ≤ n' + 4 → 1 ≤ a → a ≤ m + 1 → 1 ≤ b → b ≤ 2 * m + 5 → Q (.va (.tuple [.int a, .int b])) n'
theorem len__law_desk : ∀ n ds Q, D__law_desk n ds Q → ds.length + 1 = 2 := by
  rintro n _ Q ⟨d, rfl, _⟩
  rfl
theorem rd__law_desk : ∀ n ds Q, D__law_desk n ds Q → m__law_desk (endW Q) (slotsW 4 n ds) := by
  rintro n _ Q ⟨m, rfl, hn, h1, h2, q⟩
  unfold m__law_desk
  simp only [DL.mSeq, DL.mAsg, DL.mAsgR, DL.mAsgM, DL.mrs, DL.ssets, DL.mIf, DL.mRet, DL.mRetN, DL.mrOf, DL.mrLst, DL.mrCat, DL.mrCall, DL.mDrop, DL.mNext, DL.mBreak, DL.mCont, DL.mC, DL.mVar, DL.mOp2, DL.mOp1, DL.mAnd, DL.mOr, DL.mNot, DL.mIfE, DL.mChain, DL.mNil, DL.mCons, DL.mTup, DL.mLst, DL.mCallB, DL.mDict0, DL.mPart, DL.mNoPart, DL.mSl, DL.mCall, DL.mCallK, DL.mCallW, DL.mLenScr, DL.mWell, DL.mT, DL.mTAnd, DL.mTOr, DL.mTNot, DL.mTYes, DL.mgName, DL.mgNil, DL.mgCons, DL.mgTup, DL.miSeq, DL.miRng1, DL.miRng2, DL.mRaise, DL.mApp, DL.mFor, DL.mLc, DL.mrLc, DL.sget, DL.sset, DL.slots0, DL.slotsW, DL.endP, DL.endW, DL.endL, DL.wF, DL.fz_va, DL.fz_own, List.length_cons, List.length_nil, List.map_cons, List.map_nil, List.replicate_succ, List.replicate_zero, Nat.reduceAdd, Nat.reduceSub, Nat.reduceLeDiff, List.cons_append, List.nil_append, Nat.zero_add, Nat.add_zero, Nat.sub_self, Option.some.injEq, PyData.bool.injEq, PyData.int.injEq, PyData.tuple.injEq, PyData.list.injEq, PyData.str.injEq, List.cons.injEq, DL.S.va.injEq, DL.S.own.injEq, DL.S.well.injEq, DL.S.scr.injEq, and_true, true_and, exists_eq_left', exists_eq_left, exists_eq_right, exists_eq_right', exists_and_left, exists_and_right, exists_eq, exists_eq', reduceCtorEq, false_and, and_false, exists_const, if_true, if_false, Bool.false_eq_true, reduceIte, Bool.not_true, Bool.not_false, DL.bIsi, List.any_cons, List.any_nil, Bool.or_false, Bool.or_true, Bool.false_or, Bool.true_or, DL.isK, DL.opAdd_i, DL.opSub_i, DL.opMul_i, DL.opMod_i, DL.opFdiv_i, DL.opPow_i, DL.opLt_i, DL.opLe_i, DL.opGt_i, DL.opGe_i, DL.opEq_int, DL.opNe_int, DL.opEq_str, DL.opNe_str, DL.opIsN_n, DL.opNotN_n, DL.isN, DL.opIsB_b, DL.opNotB_b, DL.opNeg_i, DL.bAbs_i, DL.bMax_i, DL.bMin_i, DL.bInt_i, DL.bGcd_i, DL.bLen_l, DL.bLen_t, DL.opAdd_t, DL.opAdd_l, DL.opIx_l, DL.opIx_t, DL.opSl_t, DL.opSl_l, DL.opRev_t, DL.opRev_l, DL.bList_l, DL.bList_t, DL.bTup_l, DL.bTup_t, DL.atI0, DL.atI1, DL.atI2, DL.atI3]
  refine dr (by omega) h1 (by omega) fun r1 p1 p2 => ?_
  simp only [DL.mSeq, DL.mAsg, DL.mAsgR, DL.mAsgM, DL.mrs, DL.ssets, DL.mIf, DL.mRet, DL.mRetN, DL.mrOf, DL.mrLst, DL.mrCat, DL.mrCall, DL.mDrop, DL.mNext, DL.mBreak, DL.mCont, DL.mC, DL.mVar, DL.mOp2, DL.mOp1, DL.mAnd, DL.mOr, DL.mNot, DL.mIfE, DL.mChain, DL.mNil, DL.mCons, DL.mTup, DL.mLst, DL.mCallB, DL.mDict0, DL.mPart, DL.mNoPart, DL.mSl, DL.mCall, DL.mCallK, DL.mCallW, DL.mLenScr, DL.mWell, DL.mT, DL.mTAnd, DL.mTOr, DL.mTNot, DL.mTYes, DL.mgName, DL.mgNil, DL.mgCons, DL.mgTup, DL.miSeq, DL.miRng1, DL.miRng2, DL.mRaise, DL.mApp, DL.mFor, DL.mLc, DL.mrLc, DL.sget, DL.sset, DL.slots0, DL.slotsW, DL.endP, DL.endW, DL.endL, DL.wF, DL.fz_va, DL.fz_own, List.length_cons, List.length_nil, List.map_cons, List.map_nil, List.replicate_succ, List.replicate_zero, Nat.reduceAdd, Nat.reduceSub, Nat.reduceLeDiff, List.cons_append, List.nil_append, Nat.zero_add, Nat.add_zero, Nat.sub_self, Option.some.injEq, PyData.bool.injEq, PyData.int.injEq, PyData.tuple.injEq, PyData.list.injEq, PyData.str.injEq, List.cons.injEq, DL.S.va.injEq, DL.S.own.injEq, DL.S.well.injEq, DL.S.scr.injEq, and_true, true_and, exists_eq_left', exists_eq_left, exists_eq_right, exists_eq_right', exists_and_left, exists_and_right, exists_eq, exists_eq', reduceCtorEq, false_and, and_false, exists_const, if_true, if_false, Bool.false_eq_true, reduceIte, Bool.not_true, Bool.not_false, DL.bIsi, List.any_cons, List.any_nil, Bool.or_false, Bool.or_true, Bool.false_or, Bool.true_or, DL.isK, DL.opAdd_i, DL.opSub_i, DL.opMul_i, DL.opMod_i, DL.opFdiv_i, DL.opPow_i, DL.opLt_i, DL.opLe_i, DL.opGt_i, DL.opGe_i, DL.opEq_int, DL.opNe_int, DL.opEq_str, DL.opNe_str, DL.opIsN_n, DL.opNotN_n, DL.isN, DL.opIsB_b, DL.opNotB_b, DL.opNeg_i, DL.bAbs_i, DL.bMax_i, DL.bMin_i, DL.bInt_i, DL.bGcd_i, DL.bLen_l, DL.bLen_t, DL.opAdd_t, DL.opAdd_l, DL.opIx_l, DL.opIx_t, DL.opSl_t, DL.opSl_l, DL.opRev_t, DL.opRev_l, DL.bList_l, DL.bList_t, DL.bTup_l, DL.bTup_t, DL.atI0, DL.atI1, DL.atI2, DL.atI3]
  refine dr (by omega) h1 (by omega) fun r2 p3 p4 => ?_
  simp only [DL.mSeq, DL.mAsg, DL.mAsgR, DL.mAsgM, DL.mrs, DL.ssets, DL.mIf, DL.mRet, DL.mRetN, DL.mrOf, DL.mrLst, DL.mrCat, DL.mrCall, DL.mDrop, DL.mNext, DL.mBreak, DL.mCont, DL.mC, DL.mVar, DL.mOp2, DL.mOp1, DL.mAnd, DL.mOr, DL.mNot, DL.mIfE, DL.mChain, DL.mNil, DL.mCons, DL.mTup, DL.mLst, DL.mCallB, DL.mDict0, DL.mPart, DL.mNoPart, DL.mSl, DL.mCall, DL.mCallK, DL.mCallW, DL.mLenScr, DL.mWell, DL.mT, DL.mTAnd, DL.mTOr, DL.mTNot, DL.mTYes, DL.mgName, DL.mgNil, DL.mgCons, DL.mgTup, DL.miSeq, DL.miRng1, DL.miRng2, DL.mRaise, DL.mApp, DL.mFor, DL.mLc, DL.mrLc, DL.sget, DL.sset, DL.slots0, DL.slotsW, DL.endP, DL.endW, DL.endL, DL.wF, DL.fz_va, DL.fz_own, List.length_cons, List.length_nil, List.map_cons, List.map_nil, List.replicate_succ, List.replicate_zero, Nat.reduceAdd, Nat.reduceSub, Nat.reduceLeDiff, List.cons_append, List.nil_append, Nat.zero_add, Nat.add_zero, Nat.sub_self, Option.some.injEq, PyData.bool.injEq, PyData.int.injEq, PyData.tuple.injEq, PyData.list.injEq, PyData.str.injEq, List.cons.injEq, DL.S.va.injEq, DL.S.own.injEq, DL.S.well.injEq, DL.S.scr.injEq, and_true, true_and, exists_eq_left', exists_eq_left, exists_eq_right, exists_eq_right', exists_and_left, exists_and_right, exists_eq, exists_eq', reduceCtorEq, false_and, and_false, exists_const, if_true, if_false, Bool.false_eq_true, reduceIte, Bool.not_true, Bool.not_false, DL.bIsi, List.any_cons, List.any_nil, Bool.or_false, Bool.or_true, Bool.false_or, Bool.true_or, DL.isK, DL.opAdd_i, DL.opSub_i, DL.opMul_i, DL.opMod_i, DL.opFdiv_i, DL.opPow_i, DL.opLt_i, DL.opLe_i, DL.opGt_i, DL.opGe_i, DL.opEq_int, DL.opNe_int, DL.opEq_str, DL.opNe_str, DL.opIsN_n, DL.opNotN_n, DL.isN, DL.opIsB_b, DL.opNotB_b, DL.opNeg_i, DL.bAbs_i, DL.bMax_i, DL.bMin_i, DL.bInt_i, DL.bGcd_i, DL.bLen_l, DL.bLen_t, DL.opAdd_t, DL.opAdd_l, DL.opIx_l, DL.opIx_t, DL.opSl_t, DL.opSl_l, DL.opRev_t, DL.opRev_l, DL.bList_l, DL.bList_t, DL.bTup_l, DL.bTup_t, DL.atI0, DL.atI1, DL.atI2, DL.atI3]
  rw [if_pos (small2 (by omega) (by omega))]
  simp only [DL.mSeq, DL.mAsg, DL.mAsgR, DL.mAsgM, DL.mrs, DL.ssets, DL.mIf, DL.mRet, DL.mRetN, DL.mrOf, DL.mrLst, DL.mrCat, DL.mrCall, DL.mDrop, DL.mNext, DL.mBreak, DL.mCont, DL.mC, DL.mVar, DL.mOp2, DL.mOp1, DL.mAnd, DL.mOr, DL.mNot, DL.mIfE, DL.mChain, DL.mNil, DL.mCons, DL.mTup, DL.mLst, DL.mCallB, DL.mDict0, DL.mPart, DL.mNoPart, DL.mSl, DL.mCall, DL.mCallK, DL.mCallW, DL.mLenScr, DL.mWell, DL.mT, DL.mTAnd, DL.mTOr, DL.mTNot, DL.mTYes, DL.mgName, DL.mgNil, DL.mgCons, DL.mgTup, DL.miSeq, DL.miRng1, DL.miRng2, DL.mRaise, DL.mApp, DL.mFor, DL.mLc, DL.mrLc, DL.sget, DL.sset, DL.slots0, DL.slotsW, DL.endP, DL.endW, DL.endL, DL.wF, DL.fz_va, DL.fz_own, List.length_cons, List.length_nil, List.map_cons, List.map_nil, List.replicate_succ, List.replicate_zero, Nat.reduceAdd, Nat.reduceSub, Nat.reduceLeDiff, List.cons_append, List.nil_append, Nat.zero_add, Nat.add_zero, Nat.sub_self, Option.some.injEq, PyData.bool.injEq, PyData.int.injEq, PyData.tuple.injEq, PyData.list.injEq, PyData.str.injEq, List.cons.injEq, DL.S.va.injEq, DL.S.own.injEq, DL.S.well.injEq, DL.S.scr.injEq, and_true, true_and, exists_eq_left', exists_eq_left, exists_eq_right, exists_eq_right', exists_and_left, exists_and_right, exists_eq, exists_eq', reduceCtorEq, false_and, and_false, exists_const, if_true, if_false, Bool.false_eq_true, reduceIte, Bool.not_true, Bool.not_false, DL.bIsi, List.any_cons, List.any_nil, Bool.or_false, Bool.or_true, Bool.false_or, Bool.true_or, DL.isK, DL.opAdd_i, DL.opSub_i, DL.opMul_i, DL.opMod_i, DL.opFdiv_i, DL.opPow_i, DL.opLt_i, DL.opLe_i, DL.opGt_i, DL.opGe_i, DL.opEq_int, DL.opNe_int, DL.opEq_str, DL.opNe_str, DL.opIsN_n, DL.opNotN_n, DL.isN, DL.opIsB_b, DL.opNotB_b, DL.opNeg_i, DL.bAbs_i, DL.bMax_i, DL.bMin_i, DL.bInt_i, DL.bGcd_i, DL.bLen_l, DL.bLen_t, DL.opAdd_t, DL.opAdd_l, DL.opIx_l, DL.opIx_t, DL.opSl_t, DL.opSl_l, DL.opRev_t, DL.opRev_l, DL.bList_l, DL.bList_t, DL.bTup_l, DL.bTup_t, DL.atI0, DL.atI1, DL.atI2, DL.atI3]
  refine dr (by omega) (by decide) (by decide) fun r3 p5 p6 => ?_
  simp only [DL.mSeq, DL.mAsg, DL.mAsgR, DL.mAsgM, DL.mrs, DL.ssets, DL.mIf, DL.mRet, DL.mRetN, DL.mrOf, DL.mrLst, DL.mrCat, DL.mrCall, DL.mDrop, DL.mNext, DL.mBreak, DL.mCont, DL.mC, DL.mVar, DL.mOp2, DL.mOp1, DL.mAnd, DL.mOr, DL.mNot, DL.mIfE, DL.mChain, DL.mNil, DL.mCons, DL.mTup, DL.mLst, DL.mCallB, DL.mDict0, DL.mPart, DL.mNoPart, DL.mSl, DL.mCall, DL.mCallK, DL.mCallW, DL.mLenScr, DL.mWell, DL.mT, DL.mTAnd, DL.mTOr, DL.mTNot, DL.mTYes, DL.mgName, DL.mgNil, DL.mgCons, DL.mgTup, DL.miSeq, DL.miRng1, DL.miRng2, DL.mRaise, DL.mApp, DL.mFor, DL.mLc, DL.mrLc, DL.sget, DL.sset, DL.slots0, DL.slotsW, DL.endP, DL.endW, DL.endL, DL.wF, DL.fz_va, DL.fz_own, List.length_cons, List.length_nil, List.map_cons, List.map_nil, List.replicate_succ, List.replicate_zero, Nat.reduceAdd, Nat.reduceSub, Nat.reduceLeDiff, List.cons_append, List.nil_append, Nat.zero_add, Nat.add_zero, Nat.sub_self, Option.some.injEq, PyData.bool.injEq, PyData.int.injEq, PyData.tuple.injEq, PyData.list.injEq, PyData.str.injEq, List.cons.injEq, DL.S.va.injEq, DL.S.own.injEq, DL.S.well.injEq, DL.S.scr.injEq, and_true, true_and, exists_eq_left', exists_eq_left, exists_eq_right, exists_eq_right', exists_and_left, exists_and_right, exists_eq, exists_eq', reduceCtorEq, false_and, and_false, exists_const, if_true, if_false, Bool.false_eq_true, reduceIte, Bool.not_true, Bool.not_false, DL.bIsi, List.any_cons, List.any_nil, Bool.or_false, Bool.or_true, Bool.false_or, Bool.true_or, DL.isK, DL.opAdd_i, DL.opSub_i, DL.opMul_i, DL.opMod_i, DL.opFdiv_i, DL.opPow_i, DL.opLt_i, DL.opLe_i, DL.opGt_i, DL.opGe_i, DL.opEq_int, DL.opNe_int, DL.opEq_str, DL.opNe_str, DL.opIsN_n, DL.opNotN_n, DL.isN, DL.opIsB_b, DL.opNotB_b, DL.opNeg_i, DL.bAbs_i, DL.bMax_i, DL.bMin_i, DL.bInt_i, DL.bGcd_i, DL.bLen_l, DL.bLen_t, DL.opAdd_t, DL.opAdd_l, DL.opIx_l, DL.opIx_t, DL.opSl_t, DL.opSl_l, DL.opRev_t, DL.opRev_l, DL.bList_l, DL.bList_t, DL.bTup_l, DL.bTup_t, DL.atI0, DL.atI1, DL.atI2, DL.atI3]
  refine dr (by omega) (by decide) (by decide) fun r4 p7 p8 => ?_
  simp only [DL.mSeq, DL.mAsg, DL.mAsgR, DL.mAsgM, DL.mrs, DL.ssets, DL.mIf, DL.mRet, DL.mRetN, DL.mrOf, DL.mrLst, DL.mrCat, DL.mrCall, DL.mDrop, DL.mNext, DL.mBreak, DL.mCont, DL.mC, DL.mVar, DL.mOp2, DL.mOp1, DL.mAnd, DL.mOr, DL.mNot, DL.mIfE, DL.mChain, DL.mNil, DL.mCons, DL.mTup, DL.mLst, DL.mCallB, DL.mDict0, DL.mPart, DL.mNoPart, DL.mSl, DL.mCall, DL.mCallK, DL.mCallW, DL.mLenScr, DL.mWell, DL.mT, DL.mTAnd, DL.mTOr, DL.mTNot, DL.mTYes, DL.mgName, DL.mgNil, DL.mgCons, DL.mgTup, DL.miSeq, DL.miRng1, DL.miRng2, DL.mRaise, DL.mApp, DL.mFor, DL.mLc, DL.mrLc, DL.sget, DL.sset, DL.slots0, DL.slotsW, DL.endP, DL.endW, DL.endL, DL.wF, DL.fz_va, DL.fz_own, List.length_cons, List.length_nil, List.map_cons, List.map_nil, List.replicate_succ, List.replicate_zero, Nat.reduceAdd, Nat.reduceSub, Nat.reduceLeDiff, List.cons_append, List.nil_append, Nat.zero_add, Nat.add_zero, Nat.sub_self, Option.some.injEq, PyData.bool.injEq, PyData.int.injEq, PyData.tuple.injEq, PyData.list.injEq, PyData.str.injEq, List.cons.injEq, DL.S.va.injEq, DL.S.own.injEq, DL.S.well.injEq, DL.S.scr.injEq, and_true, true_and, exists_eq_left', exists_eq_left, exists_eq_right, exists_eq_right', exists_and_left, exists_and_right, exists_eq, exists_eq', reduceCtorEq, false_and, and_false, exists_const, if_true, if_false, Bool.false_eq_true, reduceIte, Bool.not_true, Bool.not_false, DL.bIsi, List.any_cons, List.any_nil, Bool.or_false, Bool.or_true, Bool.false_or, Bool.true_or, DL.isK, DL.opAdd_i, DL.opSub_i, DL.opMul_i, DL.opMod_i, DL.opFdiv_i, DL.opPow_i, DL.opLt_i, DL.opLe_i, DL.opGt_i, DL.opGe_i, DL.opEq_int, DL.opNe_int, DL.opEq_str, DL.opNe_str, DL.opIsN_n, DL.opNotN_n, DL.isN, DL.opIsB_b, DL.opNotB_b, DL.opNeg_i, DL.bAbs_i, DL.bMax_i, DL.bMin_i, DL.bInt_i, DL.bGcd_i, DL.bLen_l, DL.bLen_t, DL.opAdd_t, DL.opAdd_l, DL.opIx_l, DL.opIx_t, DL.opSl_t, DL.opSl_l, DL.opRev_t, DL.opRev_l, DL.bList_l, DL.bList_t, DL.bTup_l, DL.bTup_t, DL.atI0, DL.atI1, DL.atI2, DL.atI3]
  have c : r4 = 0 ∨ r4 = 1 ∨ r4 = 2 ∨ r4 = 3 := by omega
  rcases c with rfl | rfl | rfl | rfl <;> simp only [DL.mSeq, DL.mAsg, DL.mAsgR, DL.mAsgM, DL.mrs, DL.ssets, DL.mIf, DL.mRet, DL.mRetN, DL.mrOf, DL.mrLst, DL.mrCat, DL.mrCall, DL.mDrop, DL.mNext, DL.mBreak, DL.mCont, DL.mC, DL.mVar, DL.mOp2, DL.mOp1, DL.mAnd, DL.mOr, DL.mNot, DL.mIfE, DL.mChain, DL.mNil, DL.mCons, DL.mTup, DL.mLst, DL.mCallB, DL.mDict0, DL.mPart, DL.mNoPart, DL.mSl, DL.mCall, DL.mCallK, DL.mCallW, DL.mLenScr, DL.mWell, DL.mT, DL.mTAnd, DL.mTOr, DL.mTNot, DL.mTYes, DL.mgName, DL.mgNil, DL.mgCons, DL.mgTup, DL.miSeq, DL.miRng1, DL.miRng2, DL.mRaise, DL.mApp, DL.mFor, DL.mLc, DL.mrLc, DL.sget, DL.sset, DL.slots0, DL.slotsW, DL.endP, DL.endW, DL.endL, DL.wF, DL.fz_va, DL.fz_own, List.length_cons, List.length_nil, List.map_cons, List.map_nil, List.replicate_succ, List.replicate_zero, Nat.reduceAdd, Nat.reduceSub, Nat.reduceLeDiff, List.cons_append, List.nil_append, Nat.zero_add, Nat.add_zero, Nat.sub_self, Option.some.injEq, PyData.bool.injEq, PyData.int.injEq, PyData.tuple.injEq, PyData.list.injEq, PyData.str.injEq, List.cons.injEq, DL.S.va.injEq, DL.S.own.injEq, DL.S.well.injEq, DL.S.scr.injEq, and_true, true_and, exists_eq_left', exists_eq_left, exists_eq_right, exists_eq_right', exists_and_left, exists_and_right, exists_eq, exists_eq', reduceCtorEq, false_and, and_false, exists_const, if_true, if_false, Bool.false_eq_true, reduceIte, Bool.not_true, Bool.not_false, DL.bIsi, List.any_cons, List.any_nil, Bool.or_false, Bool.or_true, Bool.false_or, Bool.true_or, DL.isK, DL.opAdd_i, DL.opSub_i, DL.opMul_i, DL.opMod_i, DL.opFdiv_i, DL.opPow_i, DL.opLt_i, DL.opLe_i, DL.opGt_i, DL.opGe_i, DL.opEq_int, DL.opNe_int, DL.opEq_str, DL.opNe_str, DL.opIsN_n, DL.opNotN_n, DL.isN, DL.opIsB_b, DL.opNotB_b, DL.opNeg_i, DL.bAbs_i, DL.bMax_i, DL.bMin_i, DL.bInt_i, DL.bGcd_i, DL.bLen_l, DL.bLen_t, DL.opAdd_t, DL.opAdd_l, DL.opIx_l, DL.opIx_t, DL.opSl_t, DL.opSl_l, DL.opRev_t, DL.opRev_l, DL.bList_l, DL.bList_t, DL.bTup_l, DL.bTup_t, DL.atI0, DL.atI1, DL.atI2, DL.atI3] <;> exact q _ _ _ (by omega) (by omega) (by omega) (by omega) (by omega)
section
variable {P : Program} {w : World} {K : PySem.W.Frag} {mg : Str → Option Value} {base : Heap} {CN : String → Option Addr}
theorem ok__law_desk {f : Addr} {fd : FuncData} (F : Fun K "_law_desk" "_law_desk" s__law_desk f fd) (g : G K mg CN) (c__law_draw : CalW P w K mg base 1 "_law_draw" dDraw) : FnG P w K mg base 2 f fd ["well", "most"] (spW K D__law_desk) := by
  have sc := sc__law_desk
  exact fun_okW (m := m__law_desk) (CN := CN) F sc (by decide) len__law_desk (fun cdv A outer s H E C hr tk =>
    (pds_cons (pds_asg (ps_asg (pd_op or_add rl_add pd_int (pd_callW c__law_draw hr (by decide) tk (pv 0) (pda_cons (dv 1) pda_nil))) (dg 2 sc.nd)))
    (pds_cons (pds_asg (ps_asg (pd_ix ix_seq rl_ix (pd_lst (pda_cons (pd_op or_add rl_add pd_int (pd_callW c__law_draw hr (by decide) tk (pv 0) (pda_cons (dv 1) pda_nil))) (pda_cons (dv 2) (pda_cons (pd_op or_mul rl_mul (dv 2) pd_int) (pda_cons (pd_op or_add rl_add pd_int (pd_callW c__law_draw hr (by decide) tk (pv 0) (pda_cons pd_int pda_nil))) pda_nil))))) (pd_callW c__law_draw hr (by decide) tk (pv 0) (pda_cons pd_int pda_nil))) (dg 3 sc.nd)))
    (pds_one (pds_ret (pdr_of (pd_tup (pda_cons (dv 2) (pda_cons (dv 3) pda_nil))))))))) rd__law_desk
end
end LW
namespace LW
open PySem PySem.Spec PyProof.Rows L2 DL
def m__law_roll : MS :=
  mSeq (mAsg (mOp2 opIx (mLst (mCons (mC (.int 0)) (mCons (mOp2 opIx (mVar 1) (mC (.int 0))) (mCons (mCallW dDraw 0 (mCons (mOp2 opAdd (mOp2 opIx (mVar 1) (mC (.int 0))) (mC (.int 1))) (mNil))) (mNil))))) (mCallB bMin (mCons (mC (.int 2)) (mCons (mCallW dDraw 0 (mCons (mC (.int 5)) (mNil))) (mNil))))) (mgName 3))
  (mSeq (mAsg (mOp2 opIx (mLst (mCons (mC (.int 0)) (mCons (mOp2 opIx (mVar 1) (mC (.int 1))) (mCons (mCallW dDraw 0 (mCons (mOp2 opAdd (mOp2 opIx (mVar 1) (mC (.int 1))) (mC (.int 1))) (mNil))) (mNil))))) (mCallB bMin (mCons (mC (.int 2)) (mCons (mCallW dDraw 0 (mCons (mC (.int 5)) (mNil))) (mNil))))) (mgName 4))
  (mSeq (mAsgM [5, 6] [mrOf (mOp2 opSub (mCallW dDraw 0 (mCons (mOp2 opAdd (mOp2 opMul (mC (.int 2)) (mVar 2)) (mC (.int 1))) (mNil))) (mVar 2)), mrOf (mOp2 opSub (mCallW dDraw 0 (mCons (mOp2 opAdd (mOp2 opMul (mC (.int 2)) (mVar 2)) (mC (.int 1))) (mNil))) (mVar 2))])
  (mSeq (mIf (mT (mOp2 opEq (mCallW dDraw 0 (mCons (mC (.int 8)) (mNil))) (mC (.int 0)))) (mAsg (mC (.int 0)) (mgName 5)) (mIf (mT (mOp2 opEq (mCallW dDraw 0 (mCons (mC (.int 8)) (mNil))) (mC (.int 0)))) (mAsg (mC (.int 0)) (mgName 6)) (mNext)))
  (mRet (mrOf (mIfE (mT (mOp2 opNe (mTup (mCons (mVar 5) (mCons (mVar 6) (mNil)))) (mTup (mCons (mC (.int 0)) (mCons (mC (.int 0)) (mNil)))))) (mTup (mCons (mVar 3) (mCons (mVar 4) (mCons (mVar 5) (mCons (mVar 6) (mNil)))))) (mTup (mCons (mVar 3) (mCons (mVar 4) (mCons (mC (.int 1)) (mCons (mC (.int 1)) (mNil))))))))))))
theorem opNe_tt {a b c e : Int} : opNe (.tuple [.int a, .int b]) (.tuple [.int c, .int e]) = some (.bool (!(decide (a = c) && decide (b = e)))) := by
  unfold opNe SeqAt.shaped
  simp [PyData.canLay0, PyData.canLayAll0, PyData.depth, PyData.depthAll, PyData.eqv, PyData.eqvAll]
  by_cases h : a = c <;> by_cases h2 : b = e <;> simp [h, h2]
def D__law_roll : WSpec := fun n ds Q => ∃ a b m, ds = [.tuple [.int a, .int b], .int m] ∧ 10 ≤ n ∧ 1 ≤ a ∧ a < 2 ^ 150 ∧ 1 ≤ b ∧ b < 2 ^ 150 ∧ 1 ≤ m ∧ m < 2 ^ 150 ∧
  ∀ x y p q n', n ≤ n' + 10 → 0 ≤ x → x ≤ a → 0 ≤ y → y ≤ b → (-m - 1 ≤ p ∧ p ≤ m + 1) → (-m - 1 ≤ q ∧ q ≤ m + 1) → (p ≠ 0 ∨ q ≠ 0) → Q (.va (.tuple [.int x, .int y, .int p, .int q])) n'
theorem len__law_roll : ∀ n ds Q, D__law_roll n ds Q → ds.length + 1 = 3 := by
  rintro n _ Q ⟨a, b, m, rfl, _⟩
  rfl
theorem rd__law_roll : ∀ n ds Q, D__law_roll n ds Q → m__law_roll (endW Q) (slotsW 7 n ds) := by
  rintro n _ Q ⟨a, b, m, rfl, hn, a1, a2, b1, b2, m1, m2, q⟩
  unfold m__law_roll
  simp only [DL.mSeq, DL.mAsg, DL.mAsgR, DL.mAsgM, DL.mrs, DL.ssets, DL.mIf, DL.mRet, DL.mRetN, DL.mrOf, DL.mrLst, DL.mrCat, DL.mrCall, DL.mDrop, DL.mNext, DL.mBreak, DL.mCont, DL.mC, DL.mVar, DL.mOp2, DL.mOp1, DL.mAnd, DL.mOr, DL.mNot, DL.mIfE, DL.mChain, DL.mNil, DL.mCons, DL.mTup, DL.mLst, DL.mCallB, DL.mDict0, DL.mPart, DL.mNoPart, DL.mSl, DL.mCall, DL.mCallK, DL.mCallW, DL.mLenScr, DL.mWell, DL.mT, DL.mTAnd, DL.mTOr, DL.mTNot, DL.mTYes, DL.mgName, DL.mgNil, DL.mgCons, DL.mgTup, DL.miSeq, DL.miRng1, DL.miRng2, DL.mRaise, DL.mApp, DL.mFor, DL.mLc, DL.mrLc, DL.sget, DL.sset, DL.slots0, DL.slotsW, DL.endP, DL.endW, DL.endL, DL.wF, DL.fz_va, DL.fz_own, List.length_cons, List.length_nil, List.map_cons, List.map_nil, List.replicate_succ, List.replicate_zero, Nat.reduceAdd, Nat.reduceSub, Nat.reduceLeDiff, List.cons_append, List.nil_append, Nat.zero_add, Nat.add_zero, Nat.sub_self, Option.some.injEq, PyData.bool.injEq, PyData.int.injEq, PyData.tuple.injEq, PyData.list.injEq, PyData.str.injEq, List.cons.injEq, DL.S.va.injEq, DL.S.own.injEq, DL.S.well.injEq, DL.S.scr.injEq, and_true, true_and, exists_eq_left', exists_eq_left, exists_eq_right, exists_eq_right', exists_and_left, exists_and_right, exists_eq, exists_eq', reduceCtorEq, false_and, and_false, exists_const, if_true, if_false, Bool.false_eq_true, reduceIte, Bool.not_true, Bool.not_false, DL.bIsi, List.any_cons, List.any_nil, Bool.or_false, Bool.or_true, Bool.false_or, Bool.true_or, DL.isK, DL.opAdd_i, DL.opSub_i, DL.opMul_i, DL.opMod_i, DL.opFdiv_i, DL.opPow_i, DL.opLt_i, DL.opLe_i, DL.opGt_i, DL.opGe_i, DL.opEq_int, DL.opNe_int, DL.opEq_str, DL.opNe_str, DL.opIsN_n, DL.opNotN_n, DL.isN, DL.opIsB_b, DL.opNotB_b, DL.opNeg_i, DL.bAbs_i, DL.bMax_i, DL.bMin_i, DL.bInt_i, DL.bGcd_i, DL.bLen_l, DL.bLen_t, DL.opAdd_t, DL.opAdd_l, DL.opIx_l, DL.opIx_t, DL.opSl_t, DL.opSl_l, DL.opRev_t, DL.opRev_l, DL.bList_l, DL.bList_t, DL.bTup_l, DL.bTup_t, DL.atI0, DL.atI1, DL.atI2, DL.atI3]
  refine dr (by omega) (by omega) (by omega) fun r1 p1 p2 => ?_
  simp only [DL.mSeq, DL.mAsg, DL.mAsgR, DL.mAsgM, DL.mrs, DL.ssets, DL.mIf, DL.mRet, DL.mRetN, DL.mrOf, DL.mrLst, DL.mrCat, DL.mrCall, DL.mDrop, DL.mNext, DL.mBreak, DL.mCont, DL.mC, DL.mVar, DL.mOp2, DL.mOp1, DL.mAnd, DL.mOr, DL.mNot, DL.mIfE, DL.mChain, DL.mNil, DL.mCons, DL.mTup, DL.mLst, DL.mCallB, DL.mDict0, DL.mPart, DL.mNoPart, DL.mSl, DL.mCall, DL.mCallK, DL.mCallW, DL.mLenScr, DL.mWell, DL.mT, DL.mTAnd, DL.mTOr, DL.mTNot, DL.mTYes, DL.mgName, DL.mgNil, DL.mgCons, DL.mgTup, DL.miSeq, DL.miRng1, DL.miRng2, DL.mRaise, DL.mApp, DL.mFor, DL.mLc, DL.mrLc, DL.sget, DL.sset, DL.slots0, DL.slotsW, DL.endP, DL.endW, DL.endL, DL.wF, DL.fz_va, DL.fz_own, List.length_cons, List.length_nil, List.map_cons, List.map_nil, List.replicate_succ, List.replicate_zero, Nat.reduceAdd, Nat.reduceSub, Nat.reduceLeDiff, List.cons_append, List.nil_append, Nat.zero_add, Nat.add_zero, Nat.sub_self, Option.some.injEq, PyData.bool.injEq, PyData.int.injEq, PyData.tuple.injEq, PyData.list.injEq, PyData.str.injEq, List.cons.injEq, DL.S.va.injEq, DL.S.own.injEq, DL.S.well.injEq, DL.S.scr.injEq, and_true, true_and, exists_eq_left', exists_eq_left, exists_eq_right, exists_eq_right', exists_and_left, exists_and_right, exists_eq, exists_eq', reduceCtorEq, false_and, and_false, exists_const, if_true, if_false, Bool.false_eq_true, reduceIte, Bool.not_true, Bool.not_false, DL.bIsi, List.any_cons, List.any_nil, Bool.or_false, Bool.or_true, Bool.false_or, Bool.true_or, DL.isK, DL.opAdd_i, DL.opSub_i, DL.opMul_i, DL.opMod_i, DL.opFdiv_i, DL.opPow_i, DL.opLt_i, DL.opLe_i, DL.opGt_i, DL.opGe_i, DL.opEq_int, DL.opNe_int, DL.opEq_str, DL.opNe_str, DL.opIsN_n, DL.opNotN_n, DL.isN, DL.opIsB_b, DL.opNotB_b, DL.opNeg_i, DL.bAbs_i, DL.bMax_i, DL.bMin_i, DL.bInt_i, DL.bGcd_i, DL.bLen_l, DL.bLen_t, DL.opAdd_t, DL.opAdd_l, DL.opIx_l, DL.opIx_t, DL.opSl_t, DL.opSl_l, DL.opRev_t, DL.opRev_l, DL.bList_l, DL.bList_t, DL.bTup_l, DL.bTup_t, DL.atI0, DL.atI1, DL.atI2, DL.atI3]
  refine dr (by omega) (by decide) (by decide) fun r2 p3 p4 => ?_
  simp only [DL.mSeq, DL.mAsg, DL.mAsgR, DL.mAsgM, DL.mrs, DL.ssets, DL.mIf, DL.mRet, DL.mRetN, DL.mrOf, DL.mrLst, DL.mrCat, DL.mrCall, DL.mDrop, DL.mNext, DL.mBreak, DL.mCont, DL.mC, DL.mVar, DL.mOp2, DL.mOp1, DL.mAnd, DL.mOr, DL.mNot, DL.mIfE, DL.mChain, DL.mNil, DL.mCons, DL.mTup, DL.mLst, DL.mCallB, DL.mDict0, DL.mPart, DL.mNoPart, DL.mSl, DL.mCall, DL.mCallK, DL.mCallW, DL.mLenScr, DL.mWell, DL.mT, DL.mTAnd, DL.mTOr, DL.mTNot, DL.mTYes, DL.mgName, DL.mgNil, DL.mgCons, DL.mgTup, DL.miSeq, DL.miRng1, DL.miRng2, DL.mRaise, DL.mApp, DL.mFor, DL.mLc, DL.mrLc, DL.sget, DL.sset, DL.slots0, DL.slotsW, DL.endP, DL.endW, DL.endL, DL.wF, DL.fz_va, DL.fz_own, List.length_cons, List.length_nil, List.map_cons, List.map_nil, List.replicate_succ, List.replicate_zero, Nat.reduceAdd, Nat.reduceSub, Nat.reduceLeDiff, List.cons_append, List.nil_append, Nat.zero_add, Nat.add_zero, Nat.sub_self, Option.some.injEq, PyData.bool.injEq, PyData.int.injEq, PyData.tuple.injEq, PyData.list.injEq, PyData.str.injEq, List.cons.injEq, DL.S.va.injEq, DL.S.own.injEq, DL.S.well.injEq, DL.S.scr.injEq, and_true, true_and, exists_eq_left', exists_eq_left, exists_eq_right, exists_eq_right', exists_and_left, exists_and_right, exists_eq, exists_eq', reduceCtorEq, false_and, and_false, exists_const, if_true, if_false, Bool.false_eq_true, reduceIte, Bool.not_true, Bool.not_false, DL.bIsi, List.any_cons, List.any_nil, Bool.or_false, Bool.or_true, Bool.false_or, Bool.true_or, DL.isK, DL.opAdd_i, DL.opSub_i, DL.opMul_i, DL.opMod_i, DL.opFdiv_i, DL.opPow_i, DL.opLt_i, DL.opLe_i, DL.opGt_i, DL.opGe_i, DL.opEq_int, DL.opNe_int, DL.opEq_str, DL.opNe_str, DL.opIsN_n, DL.opNotN_n, DL.isN, DL.opIsB_b, DL.opNotB_b, DL.opNeg_i, DL.bAbs_i, DL.bMax_i, DL.bMin_i, DL.bInt_i, DL.bGcd_i, DL.bLen_l, DL.bLen_t, DL.opAdd_t, DL.opAdd_l, DL.opIx_l, DL.opIx_t, DL.opSl_t, DL.opSl_l, DL.opRev_t, DL.opRev_l, DL.bList_l, DL.bList_t, DL.bTup_l, DL.bTup_t, DL.atI0, DL.atI1, DL.atI2, DL.atI3]
  obtain ⟨x, e1, x0, x1⟩ : ∃ x : Int, DL.atI [PyData.int 0, .int a, .int r1] (if r2 < 2 then r2 else 2) = some (.int x) ∧ 0 ≤ x ∧ x ≤ a := by
    have c : r2 = 0 ∨ r2 = 1 ∨ 2 ≤ r2 := by omega
    rcases c with rfl | rfl | c
    · exact ⟨0, rfl, by omega, by omega⟩
    · exact ⟨a, rfl, by omega, by omega⟩
    · rw [if_neg (by omega)]
      exact ⟨r1, rfl, by omega, by omega⟩
  rw [e1]
  simp only [DL.mSeq, DL.mAsg, DL.mAsgR, DL.mAsgM, DL.mrs, DL.ssets, DL.mIf, DL.mRet, DL.mRetN, DL.mrOf, DL.mrLst, DL.mrCat, DL.mrCall, DL.mDrop, DL.mNext, DL.mBreak, DL.mCont, DL.mC, DL.mVar, DL.mOp2, DL.mOp1, DL.mAnd, DL.mOr, DL.mNot, DL.mIfE, DL.mChain, DL.mNil, DL.mCons, DL.mTup, DL.mLst, DL.mCallB, DL.mDict0, DL.mPart, DL.mNoPart, DL.mSl, DL.mCall, DL.mCallK, DL.mCallW, DL.mLenScr, DL.mWell, DL.mT, DL.mTAnd, DL.mTOr, DL.mTNot, DL.mTYes, DL.mgName, DL.mgNil, DL.mgCons, DL.mgTup, DL.miSeq, DL.miRng1, DL.miRng2, DL.mRaise, DL.mApp, DL.mFor, DL.mLc, DL.mrLc, DL.sget, DL.sset, DL.slots0, DL.slotsW, DL.endP, DL.endW, DL.endL, DL.wF, DL.fz_va, DL.fz_own, List.length_cons, List.length_nil, List.map_cons, List.map_nil, List.replicate_succ, List.replicate_zero, Nat.reduceAdd, Nat.reduceSub, Nat.reduceLeDiff, List.cons_append, List.nil_append, Nat.zero_add, Nat.add_zero, Nat.sub_self, Option.some.injEq, PyData.bool.injEq, PyData.int.injEq, PyData.tuple.injEq, PyData.list.injEq, PyData.str.injEq, List.cons.injEq, DL.S.va.injEq, DL.S.own.injEq, DL.S.well.injEq, DL.S.scr.injEq, and_true, true_and, exists_eq_left', exists_eq_left, exists_eq_right, exists_eq_right', exists_and_left, exists_and_right, exists_eq, exists_eq', reduceCtorEq, false_and, and_false, exists_const, if_true, if_false, Bool.false_eq_true, reduceIte, Bool.not_true, Bool.not_false, DL.bIsi, List.any_cons, List.any_nil, Bool.or_false, Bool.or_true, Bool.false_or, Bool.true_or, DL.isK, DL.opAdd_i, DL.opSub_i, DL.opMul_i, DL.opMod_i, DL.opFdiv_i, DL.opPow_i, DL.opLt_i, DL.opLe_i, DL.opGt_i, DL.opGe_i, DL.opEq_int, DL.opNe_int, DL.opEq_str, DL.opNe_str, DL.opIsN_n, DL.opNotN_n, DL.isN, DL.opIsB_b, DL.opNotB_b, DL.opNeg_i, DL.bAbs_i, DL.bMax_i, DL.bMin_i, DL.bInt_i, DL.bGcd_i, DL.bLen_l, DL.bLen_t, DL.opAdd_t, DL.opAdd_l, DL.opIx_l, DL.opIx_t, DL.opSl_t, DL.opSl_l, DL.opRev_t, DL.opRev_l, DL.bList_l, DL.bList_t, DL.bTup_l, DL.bTup_t, DL.atI0, DL.atI1, DL.atI2, DL.atI3]
  refine dr (by omega) (by omega) (by omega) fun r3 p5 p6 => ?_
  simp only [DL.mSeq, DL.mAsg, DL.mAsgR, DL.mAsgM, DL.mrs, DL.ssets, DL.mIf, DL.mRet, DL.mRetN, DL.mrOf, DL.mrLst, DL.mrCat, DL.mrCall, DL.mDrop, DL.mNext, DL.mBreak, DL.mCont, DL.mC, DL.mVar, DL.mOp2, DL.mOp1, DL.mAnd, DL.mOr, DL.mNot, DL.mIfE, DL.mChain, DL.mNil, DL.mCons, DL.mTup, DL.mLst, DL.mCallB, DL.mDict0, DL.mPart, DL.mNoPart, DL.mSl, DL.mCall, DL.mCallK, DL.mCallW, DL.mLenScr, DL.mWell, DL.mT, DL.mTAnd, DL.mTOr, DL.mTNot, DL.mTYes, DL.mgName, DL.mgNil, DL.mgCons, DL.mgTup, DL.miSeq, DL.miRng1, DL.miRng2, DL.mRaise, DL.mApp, DL.mFor, DL.mLc, DL.mrLc, DL.sget, DL.sset, DL.slots0, DL.slotsW, DL.endP, DL.endW, DL.endL, DL.wF, DL.fz_va, DL.fz_own, List.length_cons, List.length_nil, List.map_cons, List.map_nil, List.replicate_succ, List.replicate_zero, Nat.reduceAdd, Nat.reduceSub, Nat.reduceLeDiff, List.cons_append, List.nil_append, Nat.zero_add, Nat.add_zero, Nat.sub_self, Option.some.injEq, PyData.bool.injEq, PyData.int.injEq, PyData.tuple.injEq, PyData.list.injEq, PyData.str.injEq, List.cons.injEq, DL.S.va.injEq, DL.S.own.injEq, DL.S.well.injEq, DL.S.scr.injEq, and_true, true_and, exists_eq_left', exists_eq_left, exists_eq_right, exists_eq_right', exists_and_left, exists_and_right, exists_eq, exists_eq', reduceCtorEq, false_and, and_false, exists_const, if_true, if_false, Bool.false_eq_true, reduceIte, Bool.not_true, Bool.not_false, DL.bIsi, List.any_cons, List.any_nil, Bool.or_false, Bool.or_true, Bool.false_or, Bool.true_or, DL.isK, DL.opAdd_i, DL.opSub_i, DL.opMul_i, DL.opMod_i, DL.opFdiv_i, DL.opPow_i, DL.opLt_i, DL.opLe_i, DL.opGt_i, DL.opGe_i, DL.opEq_int, DL.opNe_int, DL.opEq_str, DL.opNe_str, DL.opIsN_n, DL.opNotN_n, DL.isN, DL.opIsB_b, DL.opNotB_b, DL.opNeg_i, DL.bAbs_i, DL.bMax_i, DL.bMin_i, DL.bInt_i, DL.bGcd_i, DL.bLen_l, DL.bLen_t, DL.opAdd_t, DL.opAdd_l, DL.opIx_l, DL.opIx_t, DL.opSl_t, DL.opSl_l, DL.opRev_t, DL.opRev_l, DL.bList_l, DL.bList_t, DL.bTup_l, DL.bTup_t, DL.atI0, DL.atI1, DL.atI2, DL.atI3]
  refine dr (by omega) (by decide) (by decide) fun r4 p7 p8 => ?_
  simp only [DL.mSeq, DL.mAsg, DL.mAsgR, DL.mAsgM, DL.mrs, DL.ssets, DL.mIf, DL.mRet, DL.mRetN, DL.mrOf, DL.mrLst, DL.mrCat, DL.mrCall, DL.mDrop, DL.mNext, DL.mBreak, DL.mCont, DL.mC, DL.mVar, DL.mOp2, DL.mOp1, DL.mAnd, DL.mOr, DL.mNot, DL.mIfE, DL.mChain, DL.mNil, DL.mCons, DL.mTup, DL.mLst, DL.mCallB, DL.mDict0, DL.mPart, DL.mNoPart, DL.mSl, DL.mCall, DL.mCallK, DL.mCallW, DL.mLenScr, DL.mWell, DL.mT, DL.mTAnd, DL.mTOr, DL.mTNot, DL.mTYes, DL.mgName, DL.mgNil, DL.mgCons, DL.mgTup, DL.miSeq, DL.miRng1, DL.miRng2, DL.mRaise, DL.mApp, DL.mFor, DL.mLc, DL.mrLc, DL.sget, DL.sset, DL.slots0, DL.slotsW, DL.endP, DL.endW, DL.endL, DL.wF, DL.fz_va, DL.fz_own, List.length_cons, List.length_nil, List.map_cons, List.map_nil, List.replicate_succ, List.replicate_zero, Nat.reduceAdd, Nat.reduceSub, Nat.reduceLeDiff, List.cons_append, List.nil_append, Nat.zero_add, Nat.add_zero, Nat.sub_self, Option.some.injEq, PyData.bool.injEq, PyData.int.injEq, PyData.tuple.injEq, PyData.list.injEq, PyData.str.injEq, List.cons.injEq, DL.S.va.injEq, DL.S.own.injEq, DL.S.well.injEq, DL.S.scr.injEq, and_true, true_and, exists_eq_left', exists_eq_left, exists_eq_right, exists_eq_right', exists_and_left, exists_and_right, exists_eq, exists_eq', reduceCtorEq, false_and, and_false, exists_const, if_true, if_false, Bool.false_eq_true, reduceIte, Bool.not_true, Bool.not_false, DL.bIsi, List.any_cons, List.any_nil, Bool.or_false, Bool.or_true, Bool.false_or, Bool.true_or, DL.isK, DL.opAdd_i, DL.opSub_i, DL.opMul_i, DL.opMod_i, DL.opFdiv_i, DL.opPow_i, DL.opLt_i, DL.opLe_i, DL.opGt_i, DL.opGe_i, DL.opEq_int, DL.opNe_int, DL.opEq_str, DL.opNe_str, DL.opIsN_n, DL.opNotN_n, DL.isN, DL.opIsB_b, DL.opNotB_b, DL.opNeg_i, DL.bAbs_i, DL.bMax_i, DL.bMin_i, DL.bInt_i, DL.bGcd_i, DL.bLen_l, DL.bLen_t, DL.opAdd_t, DL.opAdd_l, DL.opIx_l, DL.opIx_t, DL.opSl_t, DL.opSl_l, DL.opRev_t, DL.opRev_l, DL.bList_l, DL.bList_t, DL.bTup_l, DL.bTup_t, DL.atI0, DL.atI1, DL.atI2, DL.atI3]
  obtain ⟨y, e2, y0, y1⟩ : ∃ y : Int, DL.atI [PyData.int 0, .int b, .int r3] (if r4 < 2 then r4 else 2) = some (.int y) ∧ 0 ≤ y ∧ y ≤ b := by
    have c : r4 = 0 ∨ r4 = 1 ∨ 2 ≤ r4 := by omega
    rcases c with rfl | rfl | c
    · exact ⟨0, rfl, by omega, by omega⟩
    · exact ⟨b, rfl, by omega, by omega⟩
    · rw [if_neg (by omega)]
      exact ⟨r3, rfl, by omega, by omega⟩
  rw [e2]
  simp only [DL.mSeq, DL.mAsg, DL.mAsgR, DL.mAsgM, DL.mrs, DL.ssets, DL.mIf, DL.mRet, DL.mRetN, DL.mrOf, DL.mrLst, DL.mrCat, DL.mrCall, DL.mDrop, DL.mNext, DL.mBreak, DL.mCont, DL.mC, DL.mVar, DL.mOp2, DL.mOp1, DL.mAnd, DL.mOr, DL.mNot, DL.mIfE, DL.mChain, DL.mNil, DL.mCons, DL.mTup, DL.mLst, DL.mCallB, DL.mDict0, DL.mPart, DL.mNoPart, DL.mSl, DL.mCall, DL.mCallK, DL.mCallW, DL.mLenScr, DL.mWell, DL.mT, DL.mTAnd, DL.mTOr, DL.mTNot, DL.mTYes, DL.mgName, DL.mgNil, DL.mgCons, DL.mgTup, DL.miSeq, DL.miRng1, DL.miRng2, DL.mRaise, DL.mApp, DL.mFor, DL.mLc, DL.mrLc, DL.sget, DL.sset, DL.slots0, DL.slotsW, DL.endP, DL.endW, DL.endL, DL.wF, DL.fz_va, DL.fz_own, List.length_cons, List.length_nil, List.map_cons, List.map_nil, List.replicate_succ, List.replicate_zero, Nat.reduceAdd, Nat.reduceSub, Nat.reduceLeDiff, List.cons_append, List.nil_append, Nat.zero_add, Nat.add_zero, Nat.sub_self, Option.some.injEq, PyData.bool.injEq, PyData.int.injEq, PyData.tuple.injEq, PyData.list.injEq, PyData.str.injEq, List.cons.injEq, DL.S.va.injEq, DL.S.own.injEq, DL.S.well.injEq, DL.S.scr.injEq, and_true, true_and, exists_eq_left', exists_eq_left, exists_eq_right, exists_eq_right', exists_and_left, exists_and_right, exists_eq, exists_eq', reduceCtorEq, false_and, and_false, exists_const, if_true, if_false, Bool.false_eq_true, reduceIte, Bool.not_true, Bool.not_false, DL.bIsi, List.any_cons, List.any_nil, Bool.or_false, Bool.or_true, Bool.false_or, Bool.true_or, DL.isK, DL.opAdd_i, DL.opSub_i, DL.opMul_i, DL.opMod_i, DL.opFdiv_i, DL.opPow_i, DL.opLt_i, DL.opLe_i, DL.opGt_i, DL.opGe_i, DL.opEq_int, DL.opNe_int, DL.opEq_str, DL.opNe_str, DL.opIsN_n, DL.opNotN_n, DL.isN, DL.opIsB_b, DL.opNotB_b, DL.opNeg_i, DL.bAbs_i, DL.bMax_i, DL.bMin_i, DL.bInt_i, DL.bGcd_i, DL.bLen_l, DL.bLen_t, DL.opAdd_t, DL.opAdd_l, DL.opIx_l, DL.opIx_t, DL.opSl_t, DL.opSl_l, DL.opRev_t, DL.opRev_l, DL.bList_l, DL.bList_t, DL.bTup_l, DL.bTup_t, DL.atI0, DL.atI1, DL.atI2, DL.atI3]
  rw [if_pos (small2 (by decide) (by omega))]
  simp only [DL.mSeq, DL.mAsg, DL.mAsgR, DL.mAsgM, DL.mrs, DL.ssets, DL.mIf, DL.mRet, DL.mRetN, DL.mrOf, DL.mrLst, DL.mrCat, DL.mrCall, DL.mDrop, DL.mNext, DL.mBreak, DL.mCont, DL.mC, DL.mVar, DL.mOp2, DL.mOp1, DL.mAnd, DL.mOr, DL.mNot, DL.mIfE, DL.mChain, DL.mNil, DL.mCons, DL.mTup, DL.mLst, DL.mCallB, DL.mDict0, DL.mPart, DL.mNoPart, DL.mSl, DL.mCall, DL.mCallK, DL.mCallW, DL.mLenScr, DL.mWell, DL.mT, DL.mTAnd, DL.mTOr, DL.mTNot, DL.mTYes, DL.mgName, DL.mgNil, DL.mgCons, DL.mgTup, DL.miSeq, DL.miRng1, DL.miRng2, DL.mRaise, DL.mApp, DL.mFor, DL.mLc, DL.mrLc, DL.sget, DL.sset, DL.slots0, DL.slotsW, DL.endP, DL.endW, DL.endL, DL.wF, DL.fz_va, DL.fz_own, List.length_cons, List.length_nil, List.map_cons, List.map_nil, List.replicate_succ, List.replicate_zero, Nat.reduceAdd, Nat.reduceSub, Nat.reduceLeDiff, List.cons_append, List.nil_append, Nat.zero_add, Nat.add_zero, Nat.sub_self, Option.some.injEq, PyData.bool.injEq, PyData.int.injEq, PyData.tuple.injEq, PyData.list.injEq, PyData.str.injEq, List.cons.injEq, DL.S.va.injEq, DL.S.own.injEq, DL.S.well.injEq, DL.S.scr.injEq, and_true, true_and, exists_eq_left', exists_eq_left, exists_eq_right, exists_eq_right', exists_and_left, exists_and_right, exists_eq, exists_eq', reduceCtorEq, false_and, and_false, exists_const, if_true, if_false, Bool.false_eq_true, reduceIte, Bool.not_true, Bool.not_false, DL.bIsi, List.any_cons, List.any_nil, Bool.or_false, Bool.or_true, Bool.false_or, Bool.true_or, DL.isK, DL.opAdd_i, DL.opSub_i, DL.opMul_i, DL.opMod_i, DL.opFdiv_i, DL.opPow_i, DL.opLt_i, DL.opLe_i, DL.opGt_i, DL.opGe_i, DL.opEq_int, DL.opNe_int, DL.opEq_str, DL.opNe_str, DL.opIsN_n, DL.opNotN_n, DL.isN, DL.opIsB_b, DL.opNotB_b, DL.opNeg_i, DL.bAbs_i, DL.bMax_i, DL.bMin_i, DL.bInt_i, DL.bGcd_i, DL.bLen_l, DL.bLen_t, DL.opAdd_t, DL.opAdd_l, DL.opIx_l, DL.opIx_t, DL.opSl_t, DL.opSl_l, DL.opRev_t, DL.opRev_l, DL.bList_l, DL.bList_t, DL.bTup_l, DL.bTup_t, DL.atI0, DL.atI1, DL.atI2, DL.atI3]
  refine dr (by omega) (by omega) (by omega) fun r5 p9 p10 => ?_
  simp only [DL.mSeq, DL.mAsg, DL.mAsgR, DL.mAsgM, DL.mrs, DL.ssets, DL.mIf, DL.mRet, DL.mRetN, DL.mrOf, DL.mrLst, DL.mrCat, DL.mrCall, DL.mDrop, DL.mNext, DL.mBreak, DL.mCont, DL.mC, DL.mVar, DL.mOp2, DL.mOp1, DL.mAnd, DL.mOr, DL.mNot, DL.mIfE, DL.mChain, DL.mNil, DL.mCons, DL.mTup, DL.mLst, DL.mCallB, DL.mDict0, DL.mPart, DL.mNoPart, DL.mSl, DL.mCall, DL.mCallK, DL.mCallW, DL.mLenScr, DL.mWell, DL.mT, DL.mTAnd, DL.mTOr, DL.mTNot, DL.mTYes, DL.mgName, DL.mgNil, DL.mgCons, DL.mgTup, DL.miSeq, DL.miRng1, DL.miRng2, DL.mRaise, DL.mApp, DL.mFor, DL.mLc, DL.mrLc, DL.sget, DL.sset, DL.slots0, DL.slotsW, DL.endP, DL.endW, DL.endL, DL.wF, DL.fz_va, DL.fz_own, List.length_cons, List.length_nil, List.map_cons, List.map_nil, List.replicate_succ, List.replicate_zero, Nat.reduceAdd, Nat.reduceSub, Nat.reduceLeDiff, List.cons_append, List.nil_append, Nat.zero_add, Nat.add_zero, Nat.sub_self, Option.some.injEq, PyData.bool.injEq, PyData.int.injEq, PyData.tuple.injEq, PyData.list.injEq, PyData.str.injEq, List.cons.injEq, DL.S.va.injEq, DL.S.own.injEq, DL.S.well.injEq, DL.S.scr.injEq, and_true, true_and, exists_eq_left', exists_eq_left, exists_eq_right, exists_eq_right', exists_and_left, exists_and_right, exists_eq, exists_eq', reduceCtorEq, false_and, and_false, exists_const, if_true, if_false, Bool.false_eq_true, reduceIte, Bool.not_true, Bool.not_false, DL.bIsi, List.any_cons, List.any_nil, Bool.or_false, Bool.or_true, Bool.false_or, Bool.true_or, DL.isK, DL.opAdd_i, DL.opSub_i, DL.opMul_i, DL.opMod_i, DL.opFdiv_i, DL.opPow_i, DL.opLt_i, DL.opLe_i, DL.opGt_i, DL.opGe_i, DL.opEq_int, DL.opNe_int, DL.opEq_str, DL.opNe_str, DL.opIsN_n, DL.opNotN_n, DL.isN, DL.opIsB_b, DL.opNotB_b, DL.opNeg_i, DL.bAbs_i, DL.bMax_i, DL.bMin_i, DL.bInt_i, DL.bGcd_i, DL.bLen_l, DL.bLen_t, DL.opAdd_t, DL.opAdd_l, DL.opIx_l, DL.opIx_t, DL.opSl_t, DL.opSl_l, DL.opRev_t, DL.opRev_l, DL.bList_l, DL.bList_t, DL.bTup_l, DL.bTup_t, DL.atI0, DL.atI1, DL.atI2, DL.atI3]
  refine dr (by omega) (by omega) (by omega) fun r6 p11 p12 => ?_
  simp only [DL.mSeq, DL.mAsg, DL.mAsgR, DL.mAsgM, DL.mrs, DL.ssets, DL.mIf, DL.mRet, DL.mRetN, DL.mrOf, DL.mrLst, DL.mrCat, DL.mrCall, DL.mDrop, DL.mNext, DL.mBreak, DL.mCont, DL.mC, DL.mVar, DL.mOp2, DL.mOp1, DL.mAnd, DL.mOr, DL.mNot, DL.mIfE, DL.mChain, DL.mNil, DL.mCons, DL.mTup, DL.mLst, DL.mCallB, DL.mDict0, DL.mPart, DL.mNoPart, DL.mSl, DL.mCall, DL.mCallK, DL.mCallW, DL.mLenScr, DL.mWell, DL.mT, DL.mTAnd, DL.mTOr, DL.mTNot, DL.mTYes, DL.mgName, DL.mgNil, DL.mgCons, DL.mgTup, DL.miSeq, DL.miRng1, DL.miRng2, DL.mRaise, DL.mApp, DL.mFor, DL.mLc, DL.mrLc, DL.sget, DL.sset, DL.slots0, DL.slotsW, DL.endP, DL.endW, DL.endL, DL.wF, DL.fz_va, DL.fz_own, List.length_cons, List.length_nil, List.map_cons, List.map_nil, List.replicate_succ, List.replicate_zero, Nat.reduceAdd, Nat.reduceSub, Nat.reduceLeDiff, List.cons_append, List.nil_append, Nat.zero_add, Nat.add_zero, Nat.sub_self, Option.some.injEq, PyData.bool.injEq, PyData.int.injEq, PyData.tuple.injEq, PyData.list.injEq, PyData.str.injEq, List.cons.injEq, DL.S.va.injEq, DL.S.own.injEq, DL.S.well.injEq, DL.S.scr.injEq, and_true, true_and, exists_eq_left', exists_eq_left, exists_eq_right, exists_eq_right', exists_and_left, exists_and_right, exists_eq, exists_eq', reduceCtorEq, false_and, and_false, exists_const, if_true, if_false, Bool.false_eq_true, reduceIte, Bool.not_true, Bool.not_false, DL.bIsi, List.any_cons, List.any_nil, Bool.or_false, Bool.or_true, Bool.false_or, Bool.true_or, DL.isK, DL.opAdd_i, DL.opSub_i, DL.opMul_i, DL.opMod_i, DL.opFdiv_i, DL.opPow_i, DL.opLt_i, DL.opLe_i, DL.opGt_i, DL.opGe_i, DL.opEq_int, DL.opNe_int, DL.opEq_str, DL.opNe_str, DL.opIsN_n, DL.opNotN_n, DL.isN, DL.opIsB_b, DL.opNotB_b, DL.opNeg_i, DL.bAbs_i, DL.bMax_i, DL.bMin_i, DL.bInt_i, DL.bGcd_i, DL.bLen_l, DL.bLen_t, DL.opAdd_t, DL.opAdd_l, DL.opIx_l, DL.opIx_t, DL.opSl_t, DL.opSl_l, DL.opRev_t, DL.opRev_l, DL.bList_l, DL.bList_t, DL.bTup_l, DL.bTup_t, DL.atI0, DL.atI1, DL.atI2, DL.atI3]
  refine dr (by omega) (by decide) (by decide) fun r7 p13 p14 => ?_
  simp only [DL.mSeq, DL.mAsg, DL.mAsgR, DL.mAsgM, DL.mrs, DL.ssets, DL.mIf, DL.mRet, DL.mRetN, DL.mrOf, DL.mrLst, DL.mrCat, DL.mrCall, DL.mDrop, DL.mNext, DL.mBreak, DL.mCont, DL.mC, DL.mVar, DL.mOp2, DL.mOp1, DL.mAnd, DL.mOr, DL.mNot, DL.mIfE, DL.mChain, DL.mNil, DL.mCons, DL.mTup, DL.mLst, DL.mCallB, DL.mDict0, DL.mPart, DL.mNoPart, DL.mSl, DL.mCall, DL.mCallK, DL.mCallW, DL.mLenScr, DL.mWell, DL.mT, DL.mTAnd, DL.mTOr, DL.mTNot, DL.mTYes, DL.mgName, DL.mgNil, DL.mgCons, DL.mgTup, DL.miSeq, DL.miRng1, DL.miRng2, DL.mRaise, DL.mApp, DL.mFor, DL.mLc, DL.mrLc, DL.sget, DL.sset, DL.slots0, DL.slotsW, DL.endP, DL.endW, DL.endL, DL.wF, DL.fz_va, DL.fz_own, List.length_cons, List.length_nil, List.map_cons, List.map_nil, List.replicate_succ, List.replicate_zero, Nat.reduceAdd, Nat.reduceSub, Nat.reduceLeDiff, List.cons_append, List.nil_append, Nat.zero_add, Nat.add_zero, Nat.sub_self, Option.some.injEq, PyData.bool.injEq, PyData.int.injEq, PyData.tuple.injEq, PyData.list.injEq, PyData.str.injEq, List.cons.injEq, DL.S.va.injEq, DL.S.own.injEq, DL.S.well.injEq, DL.S.scr.injEq, and_true, true_and, exists_eq_left', exists_eq_left, exists_eq_right, exists_eq_right', exists_and_left, exists_and_right, exists_eq, exists_eq', reduceCtorEq, false_and, and_false, exists_const, if_true, if_false, Bool.false_eq_true, reduceIte, Bool.not_true, Bool.not_false, DL.bIsi, List.any_cons, List.any_nil, Bool.or_false, Bool.or_true, Bool.false_or, Bool.true_or, DL.isK, DL.opAdd_i, DL.opSub_i, DL.opMul_i, DL.opMod_i, DL.opFdiv_i, DL.opPow_i, DL.opLt_i, DL.opLe_i, DL.opGt_i, DL.opGe_i, DL.opEq_int, DL.opNe_int, DL.opEq_str, DL.opNe_str, DL.opIsN_n, DL.opNotN_n, DL.isN, DL.opIsB_b, DL.opNotB_b, DL.opNeg_i, DL.bAbs_i, DL.bMax_i, DL.bMin_i, DL.bInt_i, DL.bGcd_i, DL.bLen_l, DL.bLen_t, DL.opAdd_t, DL.opAdd_l, DL.opIx_l, DL.opIx_t, DL.opSl_t, DL.opSl_l, DL.opRev_t, DL.opRev_l, DL.bList_l, DL.bList_t, DL.bTup_l, DL.bTup_t, DL.atI0, DL.atI1, DL.atI2, DL.atI3]
  have fin : ∀ (p r : Int) (n' : Nat), n ≤ n' + 10 → (-m - 1 ≤ p ∧ p ≤ m + 1) → (-m - 1 ≤ r ∧ r ≤ m + 1) → ∃ z, opNe (.tuple [.int p, .int r]) (.tuple [.int 0, .int 0]) = some z ∧ ∃ c, z = .bool c ∧
      if c = true then Q (.va (.tuple [.int x, .int y, .int p, .int r])) n' else Q (.va (.tuple [.int x, .int y, .int 1, .int 1])) n' := by
    intro p r n' hn' hp hr
    refine ⟨_, opNe_tt, _, rfl, ?_⟩
    by_cases hz : p = 0 ∧ r = 0
    · rw [if_neg (by simp [hz.1, hz.2])]
      exact q _ _ _ _ _ hn' x0 x1 y0 y1 (by omega) (by omega) (by omega)
    · rw [if_pos (by simp only [Bool.not_eq_true', Bool.and_eq_false_imp, decide_eq_true_eq, decide_eq_false_iff_not]; omega)]
      exact q _ _ _ _ _ hn' x0 x1 y0 y1 hp hr (by omega)
  by_cases h7 : r7 = 0
  · rw [if_pos (decide_eq_true h7)]
    exact fin _ _ _ (by omega) (by omega) (by omega)
  · rw [if_neg (by simpa using h7)]
    refine dr (by omega) (by decide) (by decide) fun r8 p15 p16 => ?_
    simp only [DL.mSeq, DL.mAsg, DL.mAsgR, DL.mAsgM, DL.mrs, DL.ssets, DL.mIf, DL.mRet, DL.mRetN, DL.mrOf, DL.mrLst, DL.mrCat, DL.mrCall, DL.mDrop, DL.mNext, DL.mBreak, DL.mCont, DL.mC, DL.mVar, DL.mOp2, DL.mOp1, DL.mAnd, DL.mOr, DL.mNot, DL.mIfE, DL.mChain, DL.mNil, DL.mCons, DL.mTup, DL.mLst, DL.mCallB, DL.mDict0, DL.mPart, DL.mNoPart, DL.mSl, DL.mCall, DL.mCallK, DL.mCallW, DL.mLenScr, DL.mWell, DL.mT, DL.mTAnd, DL.mTOr, DL.mTNot, DL.mTYes, DL.mgName, DL.mgNil, DL.mgCons, DL.mgTup, DL.miSeq, DL.miRng1, DL.miRng2, DL.mRaise, DL.mApp, DL.mFor, DL.mLc, DL.mrLc, DL.sget, DL.sset, DL.slots0, DL.slotsW, DL.endP, DL.endW, DL.endL, DL.wF, DL.fz_va, DL.fz_own, List.length_cons, List.length_nil, List.map_cons, List.map_nil, List.replicate_succ, List.replicate_zero, Nat.reduceAdd, Nat.reduceSub, Nat.reduceLeDiff, List.cons_append, List.nil_append, Nat.zero_add, Nat.add_zero, Nat.sub_self, Option.some.injEq, PyData.bool.injEq, PyData.int.injEq, PyData.tuple.injEq, PyData.list.injEq, PyData.str.injEq, List.cons.injEq, DL.S.va.injEq, DL.S.own.injEq, DL.S.well.injEq, DL.S.scr.injEq, and_true, true_and, exists_eq_left', exists_eq_left, exists_eq_right, exists_eq_right', exists_and_left, exists_and_right, exists_eq, exists_eq', reduceCtorEq, false_and, and_false, exists_const, if_true, if_false, Bool.false_eq_true, reduceIte, Bool.not_true, Bool.not_false, DL.bIsi, List.any_cons, List.any_nil, Bool.or_false, Bool.or_true, Bool.false_or, Bool.true_or, DL.isK, DL.opAdd_i, DL.opSub_i, DL.opMul_i, DL.opMod_i, DL.opFdiv_i, DL.opPow_i, DL.opLt_i, DL.opLe_i, DL.opGt_i, DL.opGe_i, DL.opEq_int, DL.opNe_int, DL.opEq_str, DL.opNe_str, DL.opIsN_n, DL.opNotN_n, DL.isN, DL.opIsB_b, DL.opNotB_b, DL.opNeg_i, DL.bAbs_i, DL.bMax_i, DL.bMin_i, DL.bInt_i, DL.bGcd_i, DL.bLen_l, DL.bLen_t, DL.opAdd_t, DL.opAdd_l, DL.opIx_l, DL.opIx_t, DL.opSl_t, DL.opSl_l, DL.opRev_t, DL.opRev_l, DL.bList_l, DL.bList_t, DL.bTup_l, DL.bTup_t, DL.atI0, DL.atI1, DL.atI2, DL.atI3]
    by_cases h8 : r8 = 0
    · rw [if_pos (decide_eq_true h8)]
      exact fin _ _ _ (by omega) (by omega) (by omega)
    · rw [if_neg (by simpa using h8)]
      exact fin _ _ _ (by omega) (by omega) (by omega)
section
variable {P : Program} {w : World} {K : PySem.W.Frag} {mg : Str → Option Value} {base : Heap} {CN : String → Option Addr}
theorem ok__law_roll {f : Addr} {fd : FuncData} (F : Fun K "_law_roll" "_law_roll" s__law_roll f fd) (g : G K mg CN) (c__law_draw : CalW P w K mg base 1 "_law_draw" dDraw) : FnG P w K mg base 2 f fd ["well", "desk", "most"] (spW K D__law_roll) := by
  have sc := sc__law_roll
  exact fun_okW (m := m__law_roll) (CN := CN) F sc (by decide) len__law_roll (fun cdv A outer s H E C hr tk =>
    (pds_cons (pds_asg (ps_asg (pd_ix ix_seq rl_ix (pd_lst (pda_cons pd_int (pda_cons (pd_ix ix_seq rl_ix (dv 1) pd_int) (pda_cons (pd_callW c__law_draw hr (by decide) tk (pv 0) (pda_cons (pd_op or_add rl_add (pd_ix ix_seq rl_ix (dv 1) pd_int) pd_int) pda_nil)) pda_nil)))) (pd_callB (call_min2 rfl) rc_min g.b_min (by decide +kernel) (pda_cons pd_int (pda_cons (pd_callW c__law_draw hr (by decide) tk (pv 0) (pda_cons pd_int pda_nil)) pda_nil)))) (dg 3 sc.nd)))
    (pds_cons (pds_asg (ps_asg (pd_ix ix_seq rl_ix (pd_lst (pda_cons pd_int (pda_cons (pd_ix ix_seq rl_ix (dv 1) pd_int) (pda_cons (pd_callW c__law_draw hr (by decide) tk (pv 0) (pda_cons (pd_op or_add rl_add (pd_ix ix_seq rl_ix (dv 1) pd_int) pd_int) pda_nil)) pda_nil)))) (pd_callB (call_min2 rfl) rc_min g.b_min (by decide +kernel) (pda_cons pd_int (pda_cons (pd_callW c__law_draw hr (by decide) tk (pv 0) (pda_cons pd_int pda_nil)) pda_nil)))) (dg 4 sc.nd)))
    (pds_cons (pds_par2 (ps_par2 (i := 5) (j := 6) rfl sc.nd rfl rfl (by decide) rfl rfl (pdar_cons (pdr_of (pd_op op_sub rl_sub (pd_callW c__law_draw hr (by decide) tk (pv 0) (pda_cons (pd_op or_add rl_add (pd_op or_mul rl_mul pd_int (dv 2)) pd_int) pda_nil)) (dv 2))) (pdar_cons (pdr_of (pd_op op_sub rl_sub (pd_callW c__law_draw hr (by decide) tk (pv 0) (pda_cons (pd_op or_add rl_add (pd_op or_mul rl_mul pd_int (dv 2)) pd_int) pda_nil)) (dv 2))) pdar_nil)) rfl))
    (pds_cons (pds_if (pdt_cmp (or_eqD (RoomG.u64 hr)) rl_eq (pd_callW c__law_draw hr (by decide) tk (pv 0) (pda_cons pd_int pda_nil)) pd_int (nomark _)) (pds_one (pds_asg (ps_asg pd_int (dg 5 sc.nd)))) (pds_one (pds_if (pdt_cmp (or_eqD (RoomG.u64 hr)) rl_eq (pd_callW c__law_draw hr (by decide) tk (pv 0) (pda_cons pd_int pda_nil)) pd_int (nomark _)) (pds_one (pds_asg (ps_asg pd_int (dg 6 sc.nd)))) pds_nil)))
    (pds_one (pds_ret (pdr_of (pd_ifE (pdt_cmp (or_neD (RoomG.u64 hr)) rl_ne (pd_tup (pda_cons (dv 5) (pda_cons (dv 6) pda_nil))) (pd_tup (pda_cons pd_int (pda_cons pd_int pda_nil))) (nomark _)) (pd_tup (pda_cons (dv 3) (pda_cons (dv 4) (pda_cons (dv 5) (pda_cons (dv 6) pda_nil))))) (pd_tup (pda_cons (dv 3) (pda_cons (dv 4) (pda_cons pd_int (pda_cons pd_int pda_nil)))))))))))))) rd__law_roll
end
end LW
namespace LW
open PySem PySem.Spec PyProof.Rows L2 DL
def m__law_low (W : WD) : MS :=
  mSeq (mAsgM [2, 3] [mrOf (mCallB bAbs (mCons (mVar 0) (mNil))), mrOf (mCallB bAbs (mCons (mVar 1) (mNil)))])
  (mSeq (mWhile (mT (mOp2 opNe (mVar 3) (mC (.int 0)))) (mAsgM [2, 3] [mrOf (mVar 3), mrOf (mOp2 opMod (mCallB bInt (mCons (mVar 2) (mNil))) (mVar 3))]))
  (mRet (mrOf (mIfE (mT (mOp2 opGt (mVar 1) (mC (.int 0)))) (mTup (mCons (mOp2 opFdiv (mVar 0) (mVar 2)) (mCons (mOp2 opFdiv (mVar 1) (mVar 2)) (mNil)))) (mTup (mCons (mOp2 opFdiv (mOp1 opNeg (mVar 0)) (mVar 2)) (mCons (mOp2 opFdiv (mOp1 opNeg (mVar 1)) (mVar 2)) (mNil))))))))
def D__law_low : PSpec := fun ds Q _ => ∃ t b, ds = [.int t, .int b] ∧ 1 ≤ b ∧ sz 8000 b ∧ Q (.va (fracD t b))
theorem len__law_low : ∀ ds Q E, D__law_low ds Q E → ds.length = 2 := by
  rintro _ Q E ⟨t, b, rfl, _⟩
  rfl
theorem rd__law_low : ∀ ds Q E, D__law_low ds Q E → m__law_low (fun c _ => E c) (endP Q) (slots0 4 ds) := by
  rintro _ Q E ⟨t, u, rfl, hb, hs, q⟩
  unfold m__law_low
  simp only [DL.mSeq, DL.mAsg, DL.mAsgR, DL.mAsgM, DL.mrs, DL.ssets, DL.mIf, DL.mRet, DL.mRetN, DL.mrOf, DL.mrLst, DL.mrCat, DL.mrCall, DL.mDrop, DL.mNext, DL.mBreak, DL.mCont, DL.mC, DL.mVar, DL.mOp2, DL.mOp1, DL.mAnd, DL.mOr, DL.mNot, DL.mIfE, DL.mChain, DL.mNil, DL.mCons, DL.mTup, DL.mLst, DL.mCallB, DL.mDict0, DL.mPart, DL.mNoPart, DL.mSl, DL.mCall, DL.mCallK, DL.mCallW, DL.mLenScr, DL.mWell, DL.mT, DL.mTAnd, DL.mTOr, DL.mTNot, DL.mTYes, DL.mgName, DL.mgNil_n, DL.mgCons_c, DL.mgTup_t, DL.mgTup_l, DL.miSeq, DL.miRng1, DL.miRng2, DL.mRaise, DL.mApp, DL.mFor, DL.mLc, DL.mrLc, DL.sget, DL.sset, DL.slots0, DL.slotsW, DL.endP, DL.endW, DL.endL, DL.wF, DL.fz_va, DL.fz_own, List.length_cons, List.length_nil, List.map_cons, List.map_nil, List.replicate_succ, List.replicate_zero, Nat.reduceAdd, Nat.reduceSub, Nat.reduceLeDiff, List.cons_append, List.nil_append, Nat.zero_add, Nat.add_zero, Nat.sub_self, Option.some.injEq, PyData.bool.injEq, PyData.int.injEq, PyData.tuple.injEq, PyData.list.injEq, PyData.str.injEq, List.cons.injEq, DL.S.va.injEq, DL.S.own.injEq, DL.S.well.injEq, DL.S.scr.injEq, and_true, true_and, exists_eq_left', exists_eq_left, exists_eq_right, exists_eq_right', exists_and_left, exists_and_right, exists_eq, exists_eq', reduceCtorEq, false_and, and_false, exists_const, if_true, if_false, Bool.false_eq_true, reduceIte, Bool.not_true, Bool.not_false, DL.bIsi, List.any_cons, List.any_nil, Bool.or_false, Bool.or_true, Bool.false_or, Bool.true_or, DL.isK, DL.opAdd_i, DL.opSub_i, DL.opLt_i, DL.opLe_i, DL.opGt_i, DL.opGe_i, DL.opEq_int, DL.opNe_int, DL.opEq_b, DL.opNe_b, DL.opEq_nn, beq_self_eq_true, DL.opEq_str, DL.opNe_str, DL.opIsN_n, DL.opNotN_n, DL.isN, DL.opIsB_b, DL.opNotB_b, DL.opNeg_i, DL.bAbs_i, DL.bMax_i, DL.bMin_i, DL.bInt_i, DL.bGcd_i, DL.bLen_l, DL.bLen_t, DL.opAdd_t, DL.opAdd_l, DL.opIx_l, DL.opIx_t, DL.opSl_t, DL.opSl_l, DL.opRev_t, DL.opRev_l, DL.bList_l, DL.bList_t, DL.bTup_l, DL.bTup_t, DL.atI0, DL.atI1, DL.atI2, DL.atI3, DL.items_t, DL.items_l]
  refine whileM (fun m s => ∃ (a b : Int), s = [.va (.int t), .va (.int u), .va (.int a), .va (.int b)] ∧ 0 ≤ a ∧ 0 ≤ b ∧ Nat.gcd a.natAbs b.natAbs = Nat.gcd t.natAbs u.natAbs ∧ m = b.toNat) (n := u.toNat)
    ⟨_, _, rfl, by split <;> omega, by split <;> omega, by congr 1 <;> split <;> omega, by split <;> omega⟩ ?_
  rintro m s N ⟨a, b, rfl, a0, b0, hg, rfl⟩ hN
  simp only [DL.mSeq, DL.mAsg, DL.mAsgR, DL.mAsgM, DL.mrs, DL.ssets, DL.mIf, DL.mRet, DL.mRetN, DL.mrOf, DL.mrLst, DL.mrCat, DL.mrCall, DL.mDrop, DL.mNext, DL.mBreak, DL.mCont, DL.mC, DL.mVar, DL.mOp2, DL.mOp1, DL.mAnd, DL.mOr, DL.mNot, DL.mIfE, DL.mChain, DL.mNil, DL.mCons, DL.mTup, DL.mLst, DL.mCallB, DL.mDict0, DL.mPart, DL.mNoPart, DL.mSl, DL.mCall, DL.mCallK, DL.mCallW, DL.mLenScr, DL.mWell, DL.mT, DL.mTAnd, DL.mTOr, DL.mTNot, DL.mTYes, DL.mgName, DL.mgNil_n, DL.mgCons_c, DL.mgTup_t, DL.mgTup_l, DL.miSeq, DL.miRng1, DL.miRng2, DL.mRaise, DL.mApp, DL.mFor, DL.mLc, DL.mrLc, DL.sget, DL.sset, DL.slots0, DL.slotsW, DL.endP, DL.endW, DL.endL, DL.wF, DL.fz_va, DL.fz_own, List.length_cons, List.length_nil, List.map_cons, List.map_nil, List.replicate_succ, List.replicate_zero, Nat.reduceAdd, Nat.reduceSub, Nat.reduceLeDiff, List.cons_append, List.nil_append, Nat.zero_add, Nat.add_zero, Nat.sub_self, Option.some.injEq, PyData.bool.injEq, PyData.int.injEq, PyData.tuple.injEq, PyData.list.injEq, PyData.str.injEq, List.cons.injEq, DL.S.va.injEq, DL.S.own.injEq, DL.S.well.injEq, DL.S.scr.injEq, and_true, true_and, exists_eq_left', exists_eq_left, exists_eq_right, exists_eq_right', exists_and_left, exists_and_right, exists_eq, exists_eq', reduceCtorEq, false_and, and_false, exists_const, if_true, if_false, Bool.false_eq_true, reduceIte, Bool.not_true, Bool.not_false, DL.bIsi, List.any_cons, List.any_nil, Bool.or_false, Bool.or_true, Bool.false_or, Bool.true_or, DL.isK, DL.opAdd_i, DL.opSub_i, DL.opLt_i, DL.opLe_i, DL.opGt_i, DL.opGe_i, DL.opEq_int, DL.opNe_int, DL.opEq_b, DL.opNe_b, DL.opEq_nn, beq_self_eq_true, DL.opEq_str, DL.opNe_str, DL.opIsN_n, DL.opNotN_n, DL.isN, DL.opIsB_b, DL.opNotB_b, DL.opNeg_i, DL.bAbs_i, DL.bMax_i, DL.bMin_i, DL.bInt_i, DL.bGcd_i, DL.bLen_l, DL.bLen_t, DL.opAdd_t, DL.opAdd_l, DL.opIx_l, DL.opIx_t, DL.opSl_t, DL.opSl_l, DL.opRev_t, DL.opRev_l, DL.bList_l, DL.bList_t, DL.bTup_l, DL.bTup_t, DL.atI0, DL.atI1, DL.atI2, DL.atI3, DL.items_t, DL.items_l]
  by_cases hz : b = 0
  · subst hz
    rw [if_neg (by decide)]
    rw [Nat.gcd_comm] at hg
    have hg : a.natAbs = Nat.gcd t.natAbs u.natAbs := by simpa using hg
    have ea : a = (Nat.gcd t.natAbs u.natAbs : Nat) := by omega
    have g := sz_gcd (t := t) hb hs
    have g0 := gcd_pos (t := t) hb
    rw [← ea] at g g0
    rw [if_pos (by simp; omega)]
    refine ⟨_, opFdiv_ok g0 g (by decide), _, opFdiv_ok g0 g (by decide), ?_⟩
    unfold fracD at q
    rw [← ea] at q
    exact q
  · rw [if_pos (by simpa using hz)]
    refine ⟨_, opMod_ok (by omega), ?_⟩
    refine hN (a % b).toNat _ ?_ ⟨b, a % b, rfl, b0, Int.emod_nonneg _ hz, ?_, rfl⟩
    · have := Int.emod_lt_of_pos a (show 0 < b by omega)
      have := Int.emod_nonneg a hz
      omega
    · rw [← hg]
      obtain ⟨a', rfl⟩ := Int.eq_ofNat_of_zero_le a0
      obtain ⟨b', rfl⟩ := Int.eq_ofNat_of_zero_le b0
      have e : ((a' : Int) % (b' : Int)).natAbs = a' % b' := by
        rw [← Int.natCast_emod]
        rfl
      rw [e]
      show Nat.gcd b' (a' % b') = Nat.gcd a' b'
      rw [Nat.gcd_comm b' (a' % b'), ← Nat.gcd_rec, Nat.gcd_comm]
section
variable {P : Program} {w : World} {K : PySem.W.Frag} {mg : Str → Option Value} {base : Heap} {CN : String → Option Addr}
theorem ok__law_low {f : Addr} {fd : FuncData} (F : Fun K "_law_low" "_law_low" s__law_low f fd) (g : G K mg CN)  : FnG P w K mg base 1 f fd ["top", "bottom"] (spP K CN D__law_low) := by
  have sc := sc__law_low
  exact fun_okP (m := m__law_low) F sc (by decide) len__law_low (fun cdv A outer s H E C W hw hr tk =>
    (pds_cons (pds_par2 (ps_par2 (i := 2) (j := 3) rfl sc.nd rfl rfl (by decide) rfl rfl (pdar_cons (pdr_of (pd_callB call_abs rc_abs g.b_abs (by decide +kernel) (pda_cons (dv 0) pda_nil))) (pdar_cons (pdr_of (pd_callB call_abs rc_abs g.b_abs (by decide +kernel) (pda_cons (dv 1) pda_nil))) pdar_nil)) rfl))
    (pds_cons (pds_while (ps_while psw (pdt_cmp (or_neD (RoomG.u64 hr)) rl_ne (dv 3) pd_int (nomark _)) (pds_one (pds_par2 (ps_par2 (i := 2) (j := 3) rfl sc.nd rfl rfl (by decide) rfl rfl (pdar_cons (pdr_of (dv 3)) (pdar_cons (pdr_of (pd_op op_mod rl_mod (pd_callTy cr_int rc_int g.b_int (by decide +kernel) (pda_cons (dv 2) pda_nil)) (dv 3))) pdar_nil)) rfl)))))
    (pds_one (pds_ret (pdr_of (pd_ifE (pdt_cmp op_gt rl_cmpI (dv 1) pd_int (nomark _)) (pd_tup (pda_cons (pd_op op_fdivW rl_fdiv (dv 0) (dv 2)) (pda_cons (pd_op op_fdivW rl_fdiv (dv 1) (dv 2)) pda_nil))) (pd_tup (pda_cons (pd_op op_fdivW rl_fdiv (pd_un un_neg rl_neg (dv 0)) (dv 2)) (pda_cons (pd_op op_fdivW rl_fdiv (pd_un un_neg rl_neg (dv 1)) (dv 2)) pda_nil)))))))))) rd__law_low
end
end LW
namespace LW
open PySem PySem.Spec PyProof.Rows L2 DL
def m__law_fold (W : WD) : MS :=
  mSeq (mAsg (mOp2 opMod (mCallB bInt (mCons (mVar 1) (mNil))) (mOp2 opMul (mOp2 opMul (mC (.int 2)) (mVar 0)) (mVar 2))) (mgName 3))
  (mRet (mrOf (mCall D__law_low W (mCons (mIfE (mT (mOp2 opLe (mVar 3) (mOp2 opMul (mVar 0) (mVar 2)))) (mVar 3) (mOp2 opSub (mOp2 opMul (mOp2 opMul (mC (.int 2)) (mVar 0)) (mVar 2)) (mVar 3))) (mCons (mVar 2) (mNil))))))
def D__law_fold : PSpec := fun ds Q _ => ∃ s t b, ds = [.int s, .int t, .int b] ∧ 1 ≤ s ∧ 1 ≤ b ∧ sz 3000 s ∧ sz 3000 b ∧ Q (.va (fracD (foldI s t b) b))
theorem len__law_fold : ∀ ds Q E, D__law_fold ds Q E → ds.length = 3 := by
  rintro _ Q E ⟨s, t, b, rfl, _⟩
  rfl
theorem rd__law_fold : ∀ ds Q E, D__law_fold ds Q E → m__law_fold (fun c _ => E c) (endP Q) (slots0 4 ds) := by
  rintro _ Q E ⟨s, t, b, rfl, s1, b1, zs, zb, q⟩
  unfold m__law_fold
  simp only [DL.mSeq, DL.mAsg, DL.mAsgR, DL.mAsgM, DL.mrs, DL.ssets, DL.mIf, DL.mRet, DL.mRetN, DL.mrOf, DL.mrLst, DL.mrCat, DL.mrCall, DL.mDrop, DL.mNext, DL.mBreak, DL.mCont, DL.mC, DL.mVar, DL.mOp2, DL.mOp1, DL.mAnd, DL.mOr, DL.mNot, DL.mIfE, DL.mChain, DL.mNil, DL.mCons, DL.mTup, DL.mLst, DL.mCallB, DL.mDict0, DL.mPart, DL.mNoPart, DL.mSl, DL.mCall, DL.mCallK, DL.mCallW, DL.mLenScr, DL.mWell, DL.mT, DL.mTAnd, DL.mTOr, DL.mTNot, DL.mTYes, DL.mgName, DL.mgNil_n, DL.mgCons_c, DL.mgTup_t, DL.mgTup_l, DL.miSeq, DL.miRng1, DL.miRng2, DL.mRaise, DL.mApp, DL.mFor, DL.mLc, DL.mrLc, DL.sget, DL.sset, DL.slots0, DL.slotsW, DL.endP, DL.endW, DL.endL, DL.wF, DL.fz_va, DL.fz_own, List.length_cons, List.length_nil, List.map_cons, List.map_nil, List.replicate_succ, List.replicate_zero, Nat.reduceAdd, Nat.reduceSub, Nat.reduceLeDiff, List.cons_append, List.nil_append, Nat.zero_add, Nat.add_zero, Nat.sub_self, Option.some.injEq, PyData.bool.injEq, PyData.int.injEq, PyData.tuple.injEq, PyData.list.injEq, PyData.str.injEq, List.cons.injEq, DL.S.va.injEq, DL.S.own.injEq, DL.S.well.injEq, DL.S.scr.injEq, and_true, true_and, exists_eq_left', exists_eq_left, exists_eq_right, exists_eq_right', exists_and_left, exists_and_right, exists_eq, exists_eq', reduceCtorEq, false_and, and_false, exists_const, if_true, if_false, Bool.false_eq_true, reduceIte, Bool.not_true, Bool.not_false, DL.bIsi, List.any_cons, List.any_nil, Bool.or_false, Bool.or_true, Bool.false_or, Bool.true_or, DL.isK, DL.opAdd_i, DL.opSub_i, DL.opLt_i, DL.opLe_i, DL.opGt_i, DL.opGe_i, DL.opEq_int, DL.opNe_int, DL.opEq_b, DL.opNe_b, DL.opEq_nn, beq_self_eq_true, DL.opEq_str, DL.opNe_str, DL.opIsN_n, DL.opNotN_n, DL.isN, DL.opIsB_b, DL.opNotB_b, DL.opNeg_i, DL.bAbs_i, DL.bMax_i, DL.bMin_i, DL.bInt_i, DL.bGcd_i, DL.bLen_l, DL.bLen_t, DL.opAdd_t, DL.opAdd_l, DL.opIx_l, DL.opIx_t, DL.opSl_t, DL.opSl_l, DL.opRev_t, DL.opRev_l, DL.bList_l, DL.bList_t, DL.bTup_l, DL.bTup_t, DL.atI0, DL.atI1, DL.atI2, DL.atI3, DL.items_t, DL.items_l]
  have s2 : sz 2 2 := by unfold sz; decide
  have z2 : sz 3002 (2 * s) := sz_mono (sz_mul s2 zs) (by decide)
  have z3 : sz 6002 (2 * s * b) := sz_mono (sz_mul z2 zb) (by decide)
  have e1 := opMul_ok s2 zs (by decide)
  have e2 := opMul_ok z2 zb (by decide)
  have e3 := opMul_ok zs zb (by decide)
  have pos : 0 < 2 * s * b := Int.mul_pos (by omega) (by omega)
  refine ⟨_, e1, _, e2, _, opMod_ok pos, _, e3, ?_⟩
  unfold foldI at q
  by_cases h : t % (2 * s * b) ≤ s * b
  · refine ⟨.bool true, by simp [opLe, cmpI, h], _, rfl, ?_⟩
    rw [if_pos rfl]
    rw [if_pos h] at q
    exact ⟨_, b, rfl, b1, sz_mono zb (by decide), _, rfl, q⟩
  · refine ⟨.bool false, by simp [opLe, cmpI, h], _, rfl, ?_⟩
    rw [if_neg (by decide)]
    rw [if_neg h] at q
    exact ⟨_, e1, _, e2, _, rfl, _, b, rfl, b1, sz_mono zb (by decide), _, rfl, q⟩
theorem fold_eq {s T1 T2 m : Int} (hs : 1 ≤ s) (hm : 1 ≤ m) (h : T2 % (2 * s * m) = T1 % (2 * s * m) ∨ T2 % (2 * s * m) = (-T1) % (2 * s * m)) : foldI s T2 m = foldI s T1 m := by
  have M0 : 0 < 2 * s * m := Int.mul_pos (by omega) (by omega)
  have e : 2 * s * m = 2 * (s * m) := Int.mul_assoc _ _ _
  unfold foldI
  rw [e] at M0 h ⊢
  have a0 := Int.emod_nonneg T1 (show 2 * (s * m) ≠ 0 by omega)
  have a1 := Int.emod_lt_of_pos T1 M0
  rcases h with h | h
  · rw [h]
  · by_cases hz : T1 % (2 * (s * m)) = 0
    · have : (-T1) % (2 * (s * m)) = 0 := Int.emod_eq_zero_of_dvd (Int.dvd_neg.mpr (Int.dvd_of_emod_eq_zero hz))
      rw [h, this, hz]
    · have h2 : (-T1) % (2 * (s * m)) = 2 * (s * m) - T1 % (2 * (s * m)) := by
        have e1 := Int.emod_add_mul_ediv T1 (2 * (s * m))
        rw [show -T1 = (2 * (s * m) - T1 % (2 * (s * m))) + (2 * (s * m)) * (-(T1 / (2 * (s * m))) - 1) by
          rw [Int.mul_sub, Int.mul_neg]; omega]
        rw [Int.add_mul_emod_self_left]
        exact Int.emod_eq_of_lt (by omega) (by omega)
      rw [h, h2]
      generalize T1 % (2 * (s * m)) = r at *
      generalize s * m = u at *
      by_cases c : r ≤ u
      · rw [if_pos c]
        by_cases c2 : 2 * u - r ≤ u
        · rw [if_pos c2]; omega
        · rw [if_neg c2]; omega
      · rw [if_neg c, if_pos (by omega)]
/-- what folds alike is alike or against one another -/
theorem fold_inj {s T1 T2 m : Int} (hs : 1 ≤ s) (hm : 1 ≤ m) (h : foldI s T1 m = foldI s T2 m) : (2 * s * m) ∣ (T1 - T2) ∨ (2 * s * m) ∣ (T1 + T2) := by
  have M0 : 0 < 2 * s * m := Int.mul_pos (by omega) (by omega)
  have e : 2 * s * m = 2 * (s * m) := Int.mul_assoc _ _ _
  unfold foldI at h
  rw [e] at M0 h ⊢
  have a1 := Int.emod_lt_of_pos T1 M0
  have b1 := Int.emod_lt_of_pos T2 M0
  have e1 := Int.emod_add_mul_ediv T1 (2 * (s * m))
  have e2 := Int.emod_add_mul_ediv T2 (2 * (s * m))
  have c : T1 % (2 * (s * m)) = T2 % (2 * (s * m)) ∨ T1 % (2 * (s * m)) + T2 % (2 * (s * m)) = 2 * (s * m) := by
    split at h <;> split at h <;> omega
  rcases c with c | c
  · left
    refine ⟨T1 / (2 * (s * m)) - T2 / (2 * (s * m)), ?_⟩
    rw [Int.mul_sub]; omega
  · right
    refine ⟨T1 / (2 * (s * m)) + T2 / (2 * (s * m)) + 1, ?_⟩
    rw [Int.mul_add, Int.mul_add]; omega
section
variable {P : Program} {w : World} {K : PySem.W.Frag} {mg : Str → Option Value} {base : Heap} {CN : String → Option Addr}
theorem ok__law_fold {f : Addr} {fd : FuncData} (F : Fun K "_law_fold" "_law_fold" s__law_fold f fd) (g : G K mg CN) (c__law_low : CalP P w K mg base CN 1 "_law_low" D__law_low) : FnG P w K mg base 2 f fd ["edge", "top", "bottom"] (spP K CN D__law_fold) := by
  have sc := sc__law_fold
  exact fun_okP (m := m__law_fold) F sc (by decide) len__law_fold (fun cdv A outer s H E C W hw hr tk =>
    (pds_cons (pds_asg (ps_asg (pd_op op_mod rl_mod (pd_callTy cr_int rc_int g.b_int (by decide +kernel) (pda_cons (dv 1) pda_nil)) (pd_op or_mul rl_mul (pd_op or_mul rl_mul pd_int (dv 0)) (dv 2))) (dg 3 sc.nd)))
    (pds_one (pds_ret (pdr_of (pd_call c__law_low hr (by decide) tk (pda_cons (pd_ifE (pdt_cmp op_le rl_cmpI (dv 3) (pd_op or_mul rl_mul (dv 0) (dv 2)) (nomark _)) (dv 3) (pd_op op_sub rl_sub (pd_op or_mul rl_mul (pd_op or_mul rl_mul pd_int (dv 0)) (dv 2)) (dv 3))) (pda_cons (dv 2) pda_nil)))))))) rd__law_fold
end
end LW
namespace LW
open PySem PySem.Spec PyProof.Rows L2 DL
def m__law_spot (W : WD) : MS :=
  mSeq (mAsg (mVar 1) (mgTup 4 (mgCons (mgName 4) (mgCons (mgName 5) (mgCons (mgName 6) (mgCons (mgName 7) (mgNil)))))))
  (mSeq (mAsg (mCall D__law_fold W (mCons (mOp2 opIx (mVar 0) (mC (.int 0))) (mCons (mOp2 opAdd (mOp2 opMul (mVar 4) (mVar 3)) (mOp2 opMul (mVar 6) (mVar 2))) (mCons (mVar 3) (mNil))))) (mgName 8))
  (mRet (mrOf (mTup (mCons (mVar 8) (mCons (mCall D__law_fold W (mCons (mOp2 opIx (mVar 0) (mC (.int 1))) (mCons (mOp2 opAdd (mOp2 opMul (mVar 5) (mVar 3)) (mOp2 opMul (mVar 7) (mVar 2))) (mCons (mVar 3) (mNil))))) (mNil)))))))
def D__law_spot : PSpec := fun ds Q _ => ∃ a b x y p q n m, ds = [.tuple [.int a, .int b], .tuple [.int x, .int y, .int p, .int q], .int n, .int m] ∧ 1 ≤ a ∧ 1 ≤ b ∧ 1 ≤ m ∧ sz 1000 a ∧ sz 1000 b ∧ sz 1000 x ∧ sz 1000 y ∧ sz 1000 p ∧ sz 1000 q ∧ sz 1000 n ∧ sz 1000 m ∧ Q (.va (.tuple [fracD (foldI a (x * m + p * n) m) m, fracD (foldI b (y * m + q * n) m) m]))
theorem len__law_spot : ∀ ds Q E, D__law_spot ds Q E → ds.length = 4 := by
  rintro _ Q E ⟨a, b, x, y, p, q, n, m, rfl, _⟩
  rfl
theorem rd__law_spot : ∀ ds Q E, D__law_spot ds Q E → m__law_spot (fun c _ => E c) (endP Q) (slots0 9 ds) := by
  rintro _ Q E ⟨a, b, x, y, p, q', n, m, rfl, a1, b1, m1, za, zb, zx, zy, zp, zq, zn, zm, q⟩
  unfold m__law_spot
  simp only [DL.mSeq, DL.mAsg, DL.mAsgR, DL.mAsgM, DL.mrs, DL.ssets, DL.mIf, DL.mRet, DL.mRetN, DL.mrOf, DL.mrLst, DL.mrCat, DL.mrCall, DL.mDrop, DL.mNext, DL.mBreak, DL.mCont, DL.mC, DL.mVar, DL.mOp2, DL.mOp1, DL.mAnd, DL.mOr, DL.mNot, DL.mIfE, DL.mChain, DL.mNil, DL.mCons, DL.mTup, DL.mLst, DL.mCallB, DL.mDict0, DL.mPart, DL.mNoPart, DL.mSl, DL.mCall, DL.mCallK, DL.mCallW, DL.mLenScr, DL.mWell, DL.mT, DL.mTAnd, DL.mTOr, DL.mTNot, DL.mTYes, DL.mgName, DL.mgNil_n, DL.mgCons_c, DL.mgTup_t, DL.mgTup_l, DL.miSeq, DL.miRng1, DL.miRng2, DL.mRaise, DL.mApp, DL.mFor, DL.mLc, DL.mrLc, DL.sget, DL.sset, DL.slots0, DL.slotsW, DL.endP, DL.endW, DL.endL, DL.wF, DL.fz_va, DL.fz_own, List.length_cons, List.length_nil, List.map_cons, List.map_nil, List.replicate_succ, List.replicate_zero, Nat.reduceAdd, Nat.reduceSub, Nat.reduceLeDiff, List.cons_append, List.nil_append, Nat.zero_add, Nat.add_zero, Nat.sub_self, Option.some.injEq, PyData.bool.injEq, PyData.int.injEq, PyData.tuple.injEq, PyData.list.injEq, PyData.str.injEq, List.cons.injEq, DL.S.va.injEq, DL.S.own.injEq, DL.S.well.injEq, DL.S.scr.injEq, and_true, true_and, exists_eq_left', exists_eq_left, exists_eq_right, exists_eq_right', exists_and_left, exists_and_right, exists_eq, exists_eq', reduceCtorEq, false_and, and_false, exists_const, if_true, if_false, Bool.false_eq_true, reduceIte, Bool.not_true, Bool.not_false, DL.bIsi, List.any_cons, List.any_nil, Bool.or_false, Bool.or_true, Bool.false_or, Bool.true_or, DL.isK, DL.opAdd_i, DL.opSub_i, DL.opLt_i, DL.opLe_i, DL.opGt_i, DL.opGe_i, DL.opEq_int, DL.opNe_int, DL.opEq_b, DL.opNe_b, DL.opEq_nn, beq_self_eq_true, DL.opEq_str, DL.opNe_str, DL.opIsN_n, DL.opNotN_n, DL.isN, DL.opIsB_b, DL.opNotB_b, DL.opNeg_i, DL.bAbs_i, DL.bMax_i, DL.bMin_i, DL.bInt_i, DL.bGcd_i, DL.bLen_l, DL.bLen_t, DL.opAdd_t, DL.opAdd_l, DL.opIx_l, DL.opIx_t, DL.opSl_t, DL.opSl_l, DL.opRev_t, DL.opRev_l, DL.bList_l, DL.bList_t, DL.bTup_l, DL.bTup_t, DL.atI0, DL.atI1, DL.atI2, DL.atI3, DL.items_t, DL.items_l]
  have up : ∀ {u : Int}, sz 1000 u → sz 3000 u := fun h => sz_mono h (by decide)
  refine ⟨_, opMul_ok zx zm (by decide), _, opMul_ok zp zn (by decide), _, rfl, ?_⟩
  refine ⟨a, _, m, rfl, a1, m1, up za, up zm, _, rfl, _, opMul_ok zy zm (by decide), _, opMul_ok zq zn (by decide), _, rfl, ?_⟩
  exact ⟨b, _, m, rfl, b1, m1, up zb, up zm, _, rfl, q⟩
section
variable {P : Program} {w : World} {K : PySem.W.Frag} {mg : Str → Option Value} {base : Heap} {CN : String → Option Addr}
theorem ok__law_spot {f : Addr} {fd : FuncData} (F : Fun K "_law_spot" "_law_spot" s__law_spot f fd) (g : G K mg CN) (c__law_fold : CalP P w K mg base CN 2 "_law_fold" D__law_fold) : FnG P w K mg base 3 f fd ["desk", "shot_here", "top", "bottom"] (spP K CN D__law_spot) := by
  have sc := sc__law_spot
  exact fun_okP (m := m__law_spot) F sc (by decide) len__law_spot (fun cdv A outer s H E C W hw hr tk =>
    (pds_cons (pds_asg (ps_asg (dv 1) (pdg_tup rfl (gcons (dg 4 sc.nd) (gcons (dg 5 sc.nd) (gcons (dg 6 sc.nd) (gcons (dg 7 sc.nd) pdgs_nil)))))))
    (pds_cons (pds_asg (ps_asg (pd_call c__law_fold hr (by decide) tk (pda_cons (pd_ix ix_seq rl_ix (dv 0) pd_int) (pda_cons (pd_op or_add rl_add (pd_op or_mul rl_mul (dv 4) (dv 3)) (pd_op or_mul rl_mul (dv 6) (dv 2))) (pda_cons (dv 3) pda_nil)))) (dg 8 sc.nd)))
    (pds_one (pds_ret (pdr_of (pd_tup (pda_cons (dv 8) (pda_cons (pd_call c__law_fold hr (by decide) tk (pda_cons (pd_ix ix_seq rl_ix (dv 0) pd_int) (pda_cons (pd_op or_add rl_add (pd_op or_mul rl_mul (dv 5) (dv 3)) (pd_op or_mul rl_mul (dv 7) (dv 2))) (pda_cons (dv 3) pda_nil)))) pda_nil))))))))) rd__law_spot
end
end LW
namespace LW
open PySem PySem.Spec PyProof.Rows L2 DL
def m__law_step (W : WD) : MS :=
  mSeq (mAsg (mVar 1) (mgTup 4 (mgCons (mgName 2) (mgCons (mgName 3) (mgCons (mgName 4) (mgCons (mgName 5) (mgNil)))))))
  (mSeq (mAsgR 6 (mrLst (mNil)))
  (mSeq (mFor (miSeq (mTup (mCons (mTup (mCons (mVar 2) (mCons (mVar 4) (mCons (mOp2 opIx (mVar 0) (mC (.int 0))) (mNil))))) (mCons (mTup (mCons (mVar 3) (mCons (mVar 5) (mCons (mOp2 opIx (mVar 0) (mC (.int 1))) (mNil))))) (mNil))))) (mgTup 3 (mgCons (mgName 7) (mgCons (mgName 8) (mgCons (mgName 9) (mgNil))))) (mIf (mT (mOp2 opEq (mVar 8) (mC (.int 0)))) (mApp 6 (mC .none)) (mSeq (mAsg (mIfE (mT (mOp2 opGt (mVar 8) (mC (.int 0)))) (mOp2 opMul (mVar 9) (mOp2 opIx (mVar 7) (mC (.int 1)))) (mC (.int 0))) (mgName 10))
  (mApp 6 (mCall D__law_low W (mCons (mCallB bAbs (mCons (mOp2 opSub (mVar 10) (mOp2 opIx (mVar 7) (mC (.int 0)))) (mNil))) (mCons (mOp2 opMul (mOp2 opIx (mVar 7) (mC (.int 1))) (mCallB bAbs (mCons (mVar 8) (mNil)))) (mNil))))))))
  (mRet (mrOf (mVar 6)))))
def absI (i : Int) : Int := if i < 0 then -i else i
def stepD (s r c p : Int) : PyData := if p = 0 then .none else fracD (absI ((if p > 0 then s * c else 0) - r)) (c * absI p)
def D__law_step : PSpec := fun ds Q _ => ∃ a b r1 c1 r2 c2 p q, ds = [.tuple [.int a, .int b], .list [.tuple [.int r1, .int c1], .tuple [.int r2, .int c2], .int p, .int q]] ∧ 1 ≤ c1 ∧ 1 ≤ c2 ∧ sz 1000 a ∧ sz 1000 b ∧ sz 1000 c1 ∧ sz 1000 c2 ∧ sz 1000 p ∧ sz 1000 q ∧ Q (.va (.list [stepD a r1 c1 p, stepD b r2 c2 q]))
theorem len__law_step : ∀ ds Q E, D__law_step ds Q E → ds.length = 2 := by
  rintro _ Q E ⟨a, b, r1, c1, r2, c2, p, q, rfl, _⟩
  rfl
theorem absI_pos {p : Int} (h : p ≠ 0) : 1 ≤ absI p := by unfold absI; split <;> omega
theorem sz_absI {k : Nat} {p : Int} (h : sz k p) : sz k (absI p) := by
  unfold absI
  split
  · exact sz_neg h
  · exact h
theorem rd__law_step : ∀ ds Q E, D__law_step ds Q E → m__law_step (fun c _ => E c) (endP Q) (slots0 11 ds) := by
  rintro _ Q E ⟨a, b, r1, c1, r2, c2, p, q', rfl, h1, h2, za, zb, z1, z2, zp, zq, q⟩
  unfold m__law_step
  simp only [DL.mSeq, DL.mAsg, DL.mAsgR, DL.mAsgM, DL.mrs, DL.ssets, DL.mIf, DL.mRet, DL.mRetN, DL.mrOf, DL.mrLst, DL.mrCat, DL.mrCall, DL.mDrop, DL.mNext, DL.mBreak, DL.mCont, DL.mC, DL.mVar, DL.mOp2, DL.mOp1, DL.mAnd, DL.mOr, DL.mNot, DL.mIfE, DL.mChain, DL.mNil, DL.mCons, DL.mTup, DL.mLst, DL.mCallB, DL.mDict0, DL.mPart, DL.mNoPart, DL.mSl, DL.mCall, DL.mCallK, DL.mCallW, DL.mLenScr, DL.mWell, DL.mT, DL.mTAnd, DL.mTOr, DL.mTNot, DL.mTYes, DL.mgName, DL.mgNil_n, DL.mgCons_c, DL.mgTup_t, DL.mgTup_l, DL.miSeq, DL.miRng1, DL.miRng2, DL.mRaise, DL.mApp, DL.mFor, DL.mLc, DL.mrLc, DL.sget, DL.sset, DL.slots0, DL.slotsW, DL.endP, DL.endW, DL.endL, DL.wF, DL.fz_va, DL.fz_own, List.length_cons, List.length_nil, List.map_cons, List.map_nil, List.replicate_succ, List.replicate_zero, Nat.reduceAdd, Nat.reduceSub, Nat.reduceLeDiff, List.cons_append, List.nil_append, Nat.zero_add, Nat.add_zero, Nat.sub_self, Option.some.injEq, PyData.bool.injEq, PyData.int.injEq, PyData.tuple.injEq, PyData.list.injEq, PyData.str.injEq, List.cons.injEq, DL.S.va.injEq, DL.S.own.injEq, DL.S.well.injEq, DL.S.scr.injEq, and_true, true_and, exists_eq_left', exists_eq_left, exists_eq_right, exists_eq_right', exists_and_left, exists_and_right, exists_eq, exists_eq', reduceCtorEq, false_and, and_false, exists_const, if_true, if_false, Bool.false_eq_true, reduceIte, Bool.not_true, Bool.not_false, DL.bIsi, List.any_cons, List.any_nil, Bool.or_false, Bool.or_true, Bool.false_or, Bool.true_or, DL.isK, DL.opAdd_i, DL.opSub_i, DL.opLt_i, DL.opLe_i, DL.opGt_i, DL.opGe_i, DL.opEq_int, DL.opNe_int, DL.opEq_b, DL.opNe_b, DL.opEq_nn, beq_self_eq_true, DL.opEq_str, DL.opNe_str, DL.opIsN_n, DL.opNotN_n, DL.isN, DL.opIsB_b, DL.opNotB_b, DL.opNeg_i, DL.bAbs_i, DL.bMax_i, DL.bMin_i, DL.bInt_i, DL.bGcd_i, DL.bLen_l, DL.bLen_t, DL.opAdd_t, DL.opAdd_l, DL.opIx_l, DL.opIx_t, DL.opSl_t, DL.opSl_l, DL.opRev_t, DL.opRev_l, DL.bList_l, DL.bList_t, DL.bTup_l, DL.bTup_t, DL.atI0, DL.atI1, DL.atI2, DL.atI3, DL.items_t, DL.items_l]
  have one : ∀ (s r c v : Int) (s0 s1 s2 s3 s4 s5 x10 : S) (fs : List PyData) (W : WD) (D : DE), fs.length < 100000 → 1 ≤ c → sz 1000 s → sz 1000 c → sz 1000 v → (∀ x10, D.nx [s0, s1, s2, s3, s4, s5, .own (fs ++ [stepD s r c v]), .va (.tuple [.int r, .int c]), .va (.int v), .va (.int s), x10]) →
      mIf (mT (mOp2 opEq (mVar 8) (mC (.int 0)))) (mApp 6 (mC .none)) (mSeq (mAsg (mIfE (mT (mOp2 opGt (mVar 8) (mC (.int 0)))) (mOp2 opMul (mVar 9) (mOp2 opIx (mVar 7) (mC (.int 1)))) (mC (.int 0))) (mgName 10))
        (mApp 6 (mCall D__law_low W (mCons (mCallB bAbs (mCons (mOp2 opSub (mVar 10) (mOp2 opIx (mVar 7) (mC (.int 0)))) mNil)) (mCons (mOp2 opMul (mOp2 opIx (mVar 7) (mC (.int 1))) (mCallB bAbs (mCons (mVar 8) mNil))) mNil)))))
        D [s0, s1, s2, s3, s4, s5, .own fs, .va (.tuple [.int r, .int c]), .va (.int v), .va (.int s), x10] := by
    intro s r c v s0 s1 s2 s3 s4 s5 x10 fs W D hf hc zs zc zv hN
    have z1 := opMul_ok zs zc (by decide)
    refine if_run (decide (v = 0)) (fun Q h => by simp only [DL.mSeq, DL.mAsg, DL.mAsgR, DL.mAsgM, DL.mrs, DL.ssets, DL.mIf, DL.mRet, DL.mRetN, DL.mrOf, DL.mrLst, DL.mrCat, DL.mrCall, DL.mDrop, DL.mNext, DL.mBreak, DL.mCont, DL.mC, DL.mVar, DL.mOp2, DL.mOp1, DL.mAnd, DL.mOr, DL.mNot, DL.mIfE, DL.mChain, DL.mNil, DL.mCons, DL.mTup, DL.mLst, DL.mCallB, DL.mDict0, DL.mPart, DL.mNoPart, DL.mSl, DL.mCall, DL.mCallK, DL.mCallW, DL.mLenScr, DL.mWell, DL.mT, DL.mTAnd, DL.mTOr, DL.mTNot, DL.mTYes, DL.mgName, DL.mgNil_n, DL.mgCons_c, DL.mgTup_t, DL.mgTup_l, DL.miSeq, DL.miRng1, DL.miRng2, DL.mRaise, DL.mApp, DL.mFor, DL.mLc, DL.mrLc, DL.sget, DL.sset, DL.slots0, DL.slotsW, DL.endP, DL.endW, DL.endL, DL.wF, DL.fz_va, DL.fz_own, List.length_cons, List.length_nil, List.map_cons, List.map_nil, List.replicate_succ, List.replicate_zero, Nat.reduceAdd, Nat.reduceSub, Nat.reduceLeDiff, List.cons_append, List.nil_append, Nat.zero_add, Nat.add_zero, Nat.sub_self, Option.some.injEq, PyData.bool.injEq, PyData.int.injEq, PyData.tuple.injEq, PyData.list.injEq, PyData.str.injEq, List.cons.injEq, DL.S.va.injEq, DL.S.own.injEq, DL.S.well.injEq, DL.S.scr.injEq, and_true, true_and, exists_eq_left', exists_eq_left, exists_eq_right, exists_eq_right', exists_and_left, exists_and_right, exists_eq, exists_eq', reduceCtorEq, false_and, and_false, exists_const, if_true, if_false, Bool.false_eq_true, reduceIte, Bool.not_true, Bool.not_false, DL.bIsi, List.any_cons, List.any_nil, Bool.or_false, Bool.or_true, Bool.false_or, Bool.true_or, DL.isK, DL.opAdd_i, DL.opSub_i, DL.opLt_i, DL.opLe_i, DL.opGt_i, DL.opGe_i, DL.opEq_int, DL.opNe_int, DL.opEq_b, DL.opNe_b, DL.opEq_nn, beq_self_eq_true, DL.opEq_str, DL.opNe_str, DL.opIsN_n, DL.opNotN_n, DL.isN, DL.opIsB_b, DL.opNotB_b, DL.opNeg_i, DL.bAbs_i, DL.bMax_i, DL.bMin_i, DL.bInt_i, DL.bGcd_i, DL.bLen_l, DL.bLen_t, DL.opAdd_t, DL.opAdd_l, DL.opIx_l, DL.opIx_t, DL.opSl_t, DL.opSl_l, DL.opRev_t, DL.opRev_l, DL.bList_l, DL.bList_t, DL.bTup_l, DL.bTup_t, DL.atI0, DL.atI1, DL.atI2, DL.atI3, DL.items_t, DL.items_l]; exact h) (fun h => ?_) (fun h => ?_)
    · have h := of_decide_eq_true h
      simp only [DL.mSeq, DL.mAsg, DL.mAsgR, DL.mAsgM, DL.mrs, DL.ssets, DL.mIf, DL.mRet, DL.mRetN, DL.mrOf, DL.mrLst, DL.mrCat, DL.mrCall, DL.mDrop, DL.mNext, DL.mBreak, DL.mCont, DL.mC, DL.mVar, DL.mOp2, DL.mOp1, DL.mAnd, DL.mOr, DL.mNot, DL.mIfE, DL.mChain, DL.mNil, DL.mCons, DL.mTup, DL.mLst, DL.mCallB, DL.mDict0, DL.mPart, DL.mNoPart, DL.mSl, DL.mCall, DL.mCallK, DL.mCallW, DL.mLenScr, DL.mWell, DL.mT, DL.mTAnd, DL.mTOr, DL.mTNot, DL.mTYes, DL.mgName, DL.mgNil_n, DL.mgCons_c, DL.mgTup_t, DL.mgTup_l, DL.miSeq, DL.miRng1, DL.miRng2, DL.mRaise, DL.mApp, DL.mFor, DL.mLc, DL.mrLc, DL.sget, DL.sset, DL.slots0, DL.slotsW, DL.endP, DL.endW, DL.endL, DL.wF, DL.fz_va, DL.fz_own, List.length_cons, List.length_nil, List.map_cons, List.map_nil, List.replicate_succ, List.replicate_zero, Nat.reduceAdd, Nat.reduceSub, Nat.reduceLeDiff, List.cons_append, List.nil_append, Nat.zero_add, Nat.add_zero, Nat.sub_self, Option.some.injEq, PyData.bool.injEq, PyData.int.injEq, PyData.tuple.injEq, PyData.list.injEq, PyData.str.injEq, List.cons.injEq, DL.S.va.injEq, DL.S.own.injEq, DL.S.well.injEq, DL.S.scr.injEq, and_true, true_and, exists_eq_left', exists_eq_left, exists_eq_right, exists_eq_right', exists_and_left, exists_and_right, exists_eq, exists_eq', reduceCtorEq, false_and, and_false, exists_const, if_true, if_false, Bool.false_eq_true, reduceIte, Bool.not_true, Bool.not_false, DL.bIsi, List.any_cons, List.any_nil, Bool.or_false, Bool.or_true, Bool.false_or, Bool.true_or, DL.isK, DL.opAdd_i, DL.opSub_i, DL.opLt_i, DL.opLe_i, DL.opGt_i, DL.opGe_i, DL.opEq_int, DL.opNe_int, DL.opEq_b, DL.opNe_b, DL.opEq_nn, beq_self_eq_true, DL.opEq_str, DL.opNe_str, DL.opIsN_n, DL.opNotN_n, DL.isN, DL.opIsB_b, DL.opNotB_b, DL.opNeg_i, DL.bAbs_i, DL.bMax_i, DL.bMin_i, DL.bInt_i, DL.bGcd_i, DL.bLen_l, DL.bLen_t, DL.opAdd_t, DL.opAdd_l, DL.opIx_l, DL.opIx_t, DL.opSl_t, DL.opSl_l, DL.opRev_t, DL.opRev_l, DL.bList_l, DL.bList_t, DL.bTup_l, DL.bTup_t, DL.atI0, DL.atI1, DL.atI2, DL.atI3, DL.items_t, DL.items_l]
      refine ⟨hf, ?_⟩
      have h' := hN x10
      rw [stepD, if_pos h] at h'
      exact h'
    · have h := of_decide_eq_false h
      refine seq_run (fun st => st = [s0, s1, s2, s3, s4, s5, .own fs, .va (.tuple [.int r, .int c]), .va (.int v), .va (.int s), .va (.int (if v > 0 then s * c else 0))]) (fun N1 h1 => ?_) ?_
      · refine asg_run (.int (if v > 0 then s * c else 0)) (fun Q h => ?_) (h1 _ rfl)
        simp only [DL.mSeq, DL.mAsg, DL.mAsgR, DL.mAsgM, DL.mrs, DL.ssets, DL.mIf, DL.mRet, DL.mRetN, DL.mrOf, DL.mrLst, DL.mrCat, DL.mrCall, DL.mDrop, DL.mNext, DL.mBreak, DL.mCont, DL.mC, DL.mVar, DL.mOp2, DL.mOp1, DL.mAnd, DL.mOr, DL.mNot, DL.mIfE, DL.mChain, DL.mNil, DL.mCons, DL.mTup, DL.mLst, DL.mCallB, DL.mDict0, DL.mPart, DL.mNoPart, DL.mSl, DL.mCall, DL.mCallK, DL.mCallW, DL.mLenScr, DL.mWell, DL.mT, DL.mTAnd, DL.mTOr, DL.mTNot, DL.mTYes, DL.mgName, DL.mgNil_n, DL.mgCons_c, DL.mgTup_t, DL.mgTup_l, DL.miSeq, DL.miRng1, DL.miRng2, DL.mRaise, DL.mApp, DL.mFor, DL.mLc, DL.mrLc, DL.sget, DL.sset, DL.slots0, DL.slotsW, DL.endP, DL.endW, DL.endL, DL.wF, DL.fz_va, DL.fz_own, List.length_cons, List.length_nil, List.map_cons, List.map_nil, List.replicate_succ, List.replicate_zero, Nat.reduceAdd, Nat.reduceSub, Nat.reduceLeDiff, List.cons_append, List.nil_append, Nat.zero_add, Nat.add_zero, Nat.sub_self, Option.some.injEq, PyData.bool.injEq, PyData.int.injEq, PyData.tuple.injEq, PyData.list.injEq, PyData.str.injEq, List.cons.injEq, DL.S.va.injEq, DL.S.own.injEq, DL.S.well.injEq, DL.S.scr.injEq, and_true, true_and, exists_eq_left', exists_eq_left, exists_eq_right, exists_eq_right', exists_and_left, exists_and_right, exists_eq, exists_eq', reduceCtorEq, false_and, and_false, exists_const, if_true, if_false, Bool.false_eq_true, reduceIte, Bool.not_true, Bool.not_false, DL.bIsi, List.any_cons, List.any_nil, Bool.or_false, Bool.or_true, Bool.false_or, Bool.true_or, DL.isK, DL.opAdd_i, DL.opSub_i, DL.opLt_i, DL.opLe_i, DL.opGt_i, DL.opGe_i, DL.opEq_int, DL.opNe_int, DL.opEq_b, DL.opNe_b, DL.opEq_nn, beq_self_eq_true, DL.opEq_str, DL.opNe_str, DL.opIsN_n, DL.opNotN_n, DL.isN, DL.opIsB_b, DL.opNotB_b, DL.opNeg_i, DL.bAbs_i, DL.bMax_i, DL.bMin_i, DL.bInt_i, DL.bGcd_i, DL.bLen_l, DL.bLen_t, DL.opAdd_t, DL.opAdd_l, DL.opIx_l, DL.opIx_t, DL.opSl_t, DL.opSl_l, DL.opRev_t, DL.opRev_l, DL.bList_l, DL.bList_t, DL.bTup_l, DL.bTup_t, DL.atI0, DL.atI1, DL.atI2, DL.atI3, DL.items_t, DL.items_l]
        by_cases k : v > 0
        · rw [if_pos k] at h
          rw [if_pos (by simpa using k)]
          exact ⟨_, z1, h⟩
        · rw [if_neg k] at h
          rw [if_neg (by simpa using k)]
          exact h
      · rintro st rfl
        simp only [DL.mSeq, DL.mAsg, DL.mAsgR, DL.mAsgM, DL.mrs, DL.ssets, DL.mIf, DL.mRet, DL.mRetN, DL.mrOf, DL.mrLst, DL.mrCat, DL.mrCall, DL.mDrop, DL.mNext, DL.mBreak, DL.mCont, DL.mC, DL.mVar, DL.mOp2, DL.mOp1, DL.mAnd, DL.mOr, DL.mNot, DL.mIfE, DL.mChain, DL.mNil, DL.mCons, DL.mTup, DL.mLst, DL.mCallB, DL.mDict0, DL.mPart, DL.mNoPart, DL.mSl, DL.mCall, DL.mCallK, DL.mCallW, DL.mLenScr, DL.mWell, DL.mT, DL.mTAnd, DL.mTOr, DL.mTNot, DL.mTYes, DL.mgName, DL.mgNil_n, DL.mgCons_c, DL.mgTup_t, DL.mgTup_l, DL.miSeq, DL.miRng1, DL.miRng2, DL.mRaise, DL.mApp, DL.mFor, DL.mLc, DL.mrLc, DL.sget, DL.sset, DL.slots0, DL.slotsW, DL.endP, DL.endW, DL.endL, DL.wF, DL.fz_va, DL.fz_own, List.length_cons, List.length_nil, List.map_cons, List.map_nil, List.replicate_succ, List.replicate_zero, Nat.reduceAdd, Nat.reduceSub, Nat.reduceLeDiff, List.cons_append, List.nil_append, Nat.zero_add, Nat.add_zero, Nat.sub_self, Option.some.injEq, PyData.bool.injEq, PyData.int.injEq, PyData.tuple.injEq, PyData.list.injEq, PyData.str.injEq, List.cons.injEq, DL.S.va.injEq, DL.S.own.injEq, DL.S.well.injEq, DL.S.scr.injEq, and_true, true_and, exists_eq_left', exists_eq_left, exists_eq_right, exists_eq_right', exists_and_left, exists_and_right, exists_eq, exists_eq', reduceCtorEq, false_and, and_false, exists_const, if_true, if_false, Bool.false_eq_true, reduceIte, Bool.not_true, Bool.not_false, DL.bIsi, List.any_cons, List.any_nil, Bool.or_false, Bool.or_true, Bool.false_or, Bool.true_or, DL.isK, DL.opAdd_i, DL.opSub_i, DL.opLt_i, DL.opLe_i, DL.opGt_i, DL.opGe_i, DL.opEq_int, DL.opNe_int, DL.opEq_b, DL.opNe_b, DL.opEq_nn, beq_self_eq_true, DL.opEq_str, DL.opNe_str, DL.opIsN_n, DL.opNotN_n, DL.isN, DL.opIsB_b, DL.opNotB_b, DL.opNeg_i, DL.bAbs_i, DL.bMax_i, DL.bMin_i, DL.bInt_i, DL.bGcd_i, DL.bLen_l, DL.bLen_t, DL.opAdd_t, DL.opAdd_l, DL.opIx_l, DL.opIx_t, DL.opSl_t, DL.opSl_l, DL.opRev_t, DL.opRev_l, DL.bList_l, DL.bList_t, DL.bTup_l, DL.bTup_t, DL.atI0, DL.atI1, DL.atI2, DL.atI3, DL.items_t, DL.items_l]
        have a1 := absI_pos h
        have e : ∀ i : Int, (if i < 0 then -i else i) = absI i := fun _ => rfl
        rw [e, e]
        have z2 := opMul_ok zc (sz_absI zv) (by decide)
        refine ⟨_, z2, ?_⟩
        refine ⟨_, _, rfl, ?_, sz_mono (sz_mul zc (sz_absI zv)) (by decide), ?_⟩
        · have : 0 < c * absI v := Int.mul_pos (by omega) (by omega)
          omega
        · refine ⟨_, rfl, hf, ?_⟩
          have h' := hN (.va (.int (if v > 0 then s * c else 0)))
          rw [stepD, if_neg h] at h'
          exact h'
  refine forL_run (fun rs s => ∃ x7 x8 x9 x10, (rs = [.tuple [.tuple [.int r1, .int c1], .int p, .int a], .tuple [.tuple [.int r2, .int c2], .int q', .int b]] ∧ s = [.va (.tuple [.int a, .int b]), .va (.list [.tuple [.int r1, .int c1], .tuple [.int r2, .int c2], .int p, .int q']), .va (.tuple [.int r1, .int c1]), .va (.tuple [.int r2, .int c2]), .va (.int p), .va (.int q'), .own [], x7, x8, x9, x10]) ∨
    (rs = [.tuple [.tuple [.int r2, .int c2], .int q', .int b]] ∧ s = [.va (.tuple [.int a, .int b]), .va (.list [.tuple [.int r1, .int c1], .tuple [.int r2, .int c2], .int p, .int q']), .va (.tuple [.int r1, .int c1]), .va (.tuple [.int r2, .int c2]), .va (.int p), .va (.int q'), .own [stepD a r1 c1 p], x7, x8, x9, x10]) ∨
    (rs = [] ∧ s = [.va (.tuple [.int a, .int b]), .va (.list [.tuple [.int r1, .int c1], .tuple [.int r2, .int c2], .int p, .int q']), .va (.tuple [.int r1, .int c1]), .va (.tuple [.int r2, .int c2]), .va (.int p), .va (.int q'), .own [stepD a r1 c1 p, stepD b r2 c2 q'], x7, x8, x9, x10])) ?_ ?_ _ _ ⟨_, _, _, _, .inl ⟨rfl, rfl⟩⟩
  · rintro d r s N ⟨x7, x8, x9, x10, h⟩ hN
    rcases h with ⟨h, rfl⟩ | ⟨h, rfl⟩ | ⟨h, _⟩
    · cases h
      simp only [mgTup_t, mgCons_c, mgName, mgNil_n, sset, items_t, exists_eq_left', Option.some.injEq]
      exact ⟨rfl, one a r1 c1 p _ _ _ _ _ _ _ [] _ _ (by decide) h1 za z1 zp fun x10 => hN _ ⟨_, _, _, _, .inr (.inl ⟨rfl, rfl⟩)⟩⟩
    · cases h
      simp only [mgTup_t, mgCons_c, mgName, mgNil_n, sset, items_t, exists_eq_left', Option.some.injEq]
      exact ⟨rfl, one b r2 c2 q' _ _ _ _ _ _ _ [_] _ _ (by simp) h2 zb z2 zq fun x10 => hN _ ⟨_, _, _, _, .inr (.inr ⟨rfl, rfl⟩)⟩⟩
    · cases h
  · rintro s ⟨x7, x8, x9, x10, h⟩
    rcases h with ⟨h, _⟩ | ⟨h, _⟩ | ⟨_, rfl⟩
    · cases h
    · cases h
    · simp only [DL.mSeq, DL.mAsg, DL.mAsgR, DL.mAsgM, DL.mrs, DL.ssets, DL.mIf, DL.mRet, DL.mRetN, DL.mrOf, DL.mrLst, DL.mrCat, DL.mrCall, DL.mDrop, DL.mNext, DL.mBreak, DL.mCont, DL.mC, DL.mVar, DL.mOp2, DL.mOp1, DL.mAnd, DL.mOr, DL.mNot, DL.mIfE, DL.mChain, DL.mNil, DL.mCons, DL.mTup, DL.mLst, DL.mCallB, DL.mDict0, DL.mPart, DL.mNoPart, DL.mSl, DL.mCall, DL.mCallK, DL.mCallW, DL.mLenScr, DL.mWell, DL.mT, DL.mTAnd, DL.mTOr, DL.mTNot, DL.mTYes, DL.mgName, DL.mgNil_n, DL.mgCons_c, DL.mgTup_t, DL.mgTup_l, DL.miSeq, DL.miRng1, DL.miRng2, DL.mRaise, DL.mApp, DL.mFor, DL.mLc, DL.mrLc, DL.sget, DL.sset, DL.slots0, DL.slotsW, DL.endP, DL.endW, DL.endL, DL.wF, DL.fz_va, DL.fz_own, List.length_cons, List.length_nil, List.map_cons, List.map_nil, List.replicate_succ, List.replicate_zero, Nat.reduceAdd, Nat.reduceSub, Nat.reduceLeDiff, List.cons_append, List.nil_append, Nat.zero_add, Nat.add_zero, Nat.sub_self, Option.some.injEq, PyData.bool.injEq, PyData.int.injEq, PyData.tuple.injEq, PyData.list.injEq, PyData.str.injEq, List.cons.injEq, DL.S.va.injEq, DL.S.own.injEq, DL.S.well.injEq, DL.S.scr.injEq, and_true, true_and, exists_eq_left', exists_eq_left, exists_eq_right, exists_eq_right', exists_and_left, exists_and_right, exists_eq, exists_eq', reduceCtorEq, false_and, and_false, exists_const, if_true, if_false, Bool.false_eq_true, reduceIte, Bool.not_true, Bool.not_false, DL.bIsi, List.any_cons, List.any_nil, Bool.or_false, Bool.or_true, Bool.false_or, Bool.true_or, DL.isK, DL.opAdd_i, DL.opSub_i, DL.opLt_i, DL.opLe_i, DL.opGt_i, DL.opGe_i, DL.opEq_int, DL.opNe_int, DL.opEq_b, DL.opNe_b, DL.opEq_nn, beq_self_eq_true, DL.opEq_str, DL.opNe_str, DL.opIsN_n, DL.opNotN_n, DL.isN, DL.opIsB_b, DL.opNotB_b, DL.opNeg_i, DL.bAbs_i, DL.bMax_i, DL.bMin_i, DL.bInt_i, DL.bGcd_i, DL.bLen_l, DL.bLen_t, DL.opAdd_t, DL.opAdd_l, DL.opIx_l, DL.opIx_t, DL.opSl_t, DL.opSl_l, DL.opRev_t, DL.opRev_l, DL.bList_l, DL.bList_t, DL.bTup_l, DL.bTup_t, DL.atI0, DL.atI1, DL.atI2, DL.atI3, DL.items_t, DL.items_l]
      exact q
section
variable {P : Program} {w : World} {K : PySem.W.Frag} {mg : Str → Option Value} {base : Heap} {CN : String → Option Addr}
theorem ok__law_step {f : Addr} {fd : FuncData} (F : Fun K "_law_step" "_law_step" s__law_step f fd) (g : G K mg CN) (c__law_low : CalP P w K mg base CN 1 "_law_low" D__law_low) : FnG P w K mg base 2 f fd ["desk", "shot_here"] (spP K CN D__law_step) := by
  have sc := sc__law_step
  exact fun_okP (m := m__law_step) F sc (by decide) len__law_step (fun cdv A outer s H E C W hw hr tk =>
    (pds_cons (pds_asg (ps_asg (dv 1) (pdg_tup rfl (gcons (dg 2 sc.nd) (gcons (dg 3 sc.nd) (gcons (dg 4 sc.nd) (gcons (dg 5 sc.nd) pdgs_nil)))))))
    (pds_cons (pds_asgR (ps_set (i := 6) sc.nd rfl (.inl rfl) (pdr_lst pda_nil)))
    (pds_cons (pds_for (ps_for psw rfl (pdi_seq (pd_tup (pda_cons (pd_tup (pda_cons (dv 2) (pda_cons (dv 4) (pda_cons (pd_ix ix_seq rl_ix (dv 0) pd_int) pda_nil)))) (pda_cons (pd_tup (pda_cons (dv 3) (pda_cons (dv 5) (pda_cons (pd_ix ix_seq rl_ix (dv 0) pd_int) pda_nil)))) pda_nil)))) (pdg_tup rfl (gcons (dg 7 sc.nd) (gcons (dg 8 sc.nd) (gcons (dg 9 sc.nd) pdgs_nil)))) (pds_one (pds_if (pdt_cmp (or_eqD (RoomG.u64 hr)) rl_eq (dv 8) pd_int (nomark _)) (pds_one (pds_app (ps_expr (pe_bm PySem.F.plainAttrs_list PySem.F.slot_list_append PySem.F.type_list_append mt_append (pv 6) (pa_cons pd_non pa_nil))))) (pds_cons (pds_asg (ps_asg (pd_ifE (pdt_cmp op_gt rl_cmpI (dv 8) pd_int (nomark _)) (pd_op or_mul rl_mul (dv 9) (pd_ix ix_seq rl_ix (dv 7) pd_int)) pd_int) (dg 10 sc.nd)))
    (pds_one (pds_app (ps_expr (pe_bm PySem.F.plainAttrs_list PySem.F.slot_list_append PySem.F.type_list_append mt_append (pv 6) (pa_cons (pd_call c__law_low hr (by decide) tk (pda_cons (pd_callB call_abs rc_abs g.b_abs (by decide +kernel) (pda_cons (pd_op op_sub rl_sub (dv 10) (pd_ix ix_seq rl_ix (dv 7) pd_int)) pda_nil)) (pda_cons (pd_op or_mul rl_mul (pd_ix ix_seq rl_ix (dv 7) pd_int) (pd_callB call_abs rc_abs g.b_abs (by decide +kernel) (pda_cons (dv 8) pda_nil))) pda_nil))) pa_nil))))))))))
    (pds_one (pds_ret (pdr_of (dv 6)))))))) rd__law_step
end
end LW
namespace LW
open PySem PySem.Spec PyProof.Rows L2 DL
def m__law_hits (W : WD) : MS :=
  mSeq (mAsg (mVar 1) (mgTup 4 (mgCons (mgName 3) (mgCons (mgName 4) (mgCons (mgName 5) (mgCons (mgName 6) (mgNil)))))))
  (mSeq (mAsg (mIfE (mTOr (mTAnd (mT (mOp2 opGt (mVar 5) (mC (.int 0)))) (mT (mOp2 opEq (mVar 3) (mOp2 opIx (mVar 0) (mC (.int 0)))))) (mTAnd (mT (mOp2 opLt (mVar 5) (mC (.int 0)))) (mT (mOp2 opEq (mVar 3) (mC (.int 0)))))) (mOp1 opNeg (mVar 5)) (mVar 5)) (mgName 5))
  (mSeq (mAsg (mIfE (mTOr (mTAnd (mT (mOp2 opGt (mVar 6) (mC (.int 0)))) (mT (mOp2 opEq (mVar 4) (mOp2 opIx (mVar 0) (mC (.int 1)))))) (mTAnd (mT (mOp2 opLt (mVar 6) (mC (.int 0)))) (mT (mOp2 opEq (mVar 4) (mC (.int 0)))))) (mOp1 opNeg (mVar 6)) (mVar 6)) (mgName 6))
  (mSeq (mAsgM [7, 8, 9] [mrOf (mLst (mCons (mTup (mCons (mVar 3) (mCons (mC (.int 1)) (mNil)))) (mCons (mTup (mCons (mVar 4) (mCons (mC (.int 1)) (mNil)))) (mCons (mVar 5) (mCons (mVar 6) (mNil)))))), mrOf (mTup (mCons (mC (.int 0)) (mCons (mC (.int 1)) (mNil)))), mrLst (mNil)])
  (mSeq (mFor (miRng1 (mCons (mVar 2) (mNil))) (mgName 10) (mSeq (mAsg (mCall D__law_step W (mCons (mVar 0) (mCons (mVar 7) (mNil)))) (mgTup 2 (mgCons (mgName 11) (mgCons (mgName 12) (mgNil)))))
  (mSeq (mAsg (mVar 11) (mgName 13))
  (mSeq (mIf (mTOr (mT (mOp2 opIsN2 (mVar 11) (mC .none))) (mTAnd (mT (mOp2 opNotN2 (mVar 12) (mC .none))) (mT (mOp2 opLt (mOp2 opMul (mOp2 opIx (mVar 12) (mC (.int 0))) (mOp2 opIx (mVar 11) (mC (.int 1)))) (mOp2 opMul (mOp2 opIx (mVar 11) (mC (.int 0))) (mOp2 opIx (mVar 12) (mC (.int 1)))))))) (mAsg (mVar 12) (mgName 13)) (mNext))
  (mSeq (mAsg (mCall D__law_low W (mCons (mOp2 opAdd (mOp2 opMul (mOp2 opIx (mVar 8) (mC (.int 0))) (mOp2 opIx (mVar 13) (mC (.int 1)))) (mOp2 opMul (mOp2 opIx (mVar 13) (mC (.int 0))) (mOp2 opIx (mVar 8) (mC (.int 1))))) (mCons (mOp2 opMul (mOp2 opIx (mVar 8) (mC (.int 1))) (mOp2 opIx (mVar 13) (mC (.int 1)))) (mNil)))) (mgName 8))
  (mSeq (mAsg (mC (.str "")) (mgName 14))
  (mSeq (mIf (mT (mOp2 opEq (mVar 11) (mVar 13))) (mAsg (mIfE (mT (mOp2 opGt (mOp2 opIx (mVar 7) (mC (.int 2))) (mC (.int 0)))) (mC (.str "E")) (mC (.str "W"))) (mgName 14)) (mNext))
  (mSeq (mIf (mT (mOp2 opEq (mVar 12) (mVar 13))) (mAsg (mOp2 opAdd (mVar 14) (mIfE (mT (mOp2 opGt (mOp2 opIx (mVar 7) (mC (.int 3))) (mC (.int 0)))) (mC (.str "N")) (mC (.str "S")))) (mgName 14)) (mNext))
  (mSeq (mAsgR 15 (mrLst (mNil)))
  (mSeq (mFor (miSeq (mTup (mCons (mTup (mCons (mOp2 opIx (mVar 7) (mC (.int 0))) (mCons (mOp2 opIx (mVar 7) (mC (.int 2))) (mNil)))) (mCons (mTup (mCons (mOp2 opIx (mVar 7) (mC (.int 1))) (mCons (mOp2 opIx (mVar 7) (mC (.int 3))) (mNil)))) (mNil))))) (mgTup 2 (mgCons (mgName 16) (mgCons (mgName 17) (mgNil)))) (mSeq (mAsg (mOp2 opAdd (mOp2 opMul (mOp2 opIx (mVar 16) (mC (.int 0))) (mOp2 opIx (mVar 13) (mC (.int 1)))) (mOp2 opMul (mOp2 opMul (mVar 17) (mOp2 opIx (mVar 13) (mC (.int 0)))) (mOp2 opIx (mVar 16) (mC (.int 1))))) (mgName 18))
  (mApp 15 (mCall D__law_low W (mCons (mVar 18) (mCons (mOp2 opMul (mOp2 opIx (mVar 16) (mC (.int 1))) (mOp2 opIx (mVar 13) (mC (.int 1)))) (mNil)))))))
  (mSeq (mApp 9 (mTup (mCons (mVar 8) (mCons (mVar 14) (mCons (mTup (mCons (mOp2 opIx (mVar 15) (mC (.int 0))) (mCons (mOp2 opIx (mVar 15) (mC (.int 1))) (mNil)))) (mNil))))))
  (mSeq (mAsg (mIfE (mT (mOp2 opEq (mVar 11) (mVar 13))) (mOp1 opNeg (mOp2 opIx (mVar 7) (mC (.int 2)))) (mOp2 opIx (mVar 7) (mC (.int 2)))) (mgName 5))
  (mAsg (mLst (mCons (mOp2 opIx (mVar 15) (mC (.int 0))) (mCons (mOp2 opIx (mVar 15) (mC (.int 1))) (mCons (mVar 5) (mCons (mIfE (mT (mOp2 opEq (mVar 12) (mVar 13))) (mOp1 opNeg (mOp2 opIx (mVar 7) (mC (.int 3)))) (mOp2 opIx (mVar 7) (mC (.int 3)))) (mNil)))))) (mgName 7))))))))))))))
  (mRet (mrOf (mVar 9)))))))
def rP (s A V n m : Int) : Int := (A * m + V * n) / (s * m)
def rD (s A V n m : Int) : Int := s * m * (rP s A V n m + 1) - (A * m + V * n)
def rF (s A V n m : Int) : Int := if rP s A V n m % 2 = 0 then s * m - rD s A V n m else rD s A V n m
def rW (s A V n m : Int) : Int := if rP s A V n m % 2 = 0 then V else -V
section
variable {s A V n m n' m' w0 w1 : Int}
theorem rD_facts (hs : 1 ≤ s) (hm : 1 ≤ m) : 0 < rD s A V n m ∧ rD s A V n m ≤ s * m := by
  have M0 : 0 < s * m := Int.mul_pos (by omega) (by omega)
  have e := Int.emod_add_mul_ediv (A * m + V * n) (s * m)
  have h0 := Int.emod_nonneg (A * m + V * n) (show s * m ≠ 0 by omega)
  have h1 := Int.emod_lt_of_pos (A * m + V * n) M0
  unfold rD rP
  rw [Int.mul_add]
  omega
theorem rP_of {P : Int} (hs : 1 ≤ s) (hm : 1 ≤ m) (h0 : s * m * P ≤ A * m + V * n) (h1 : A * m + V * n < s * m * (P + 1)) : rP s A V n m = P := by
  have M0 : 0 < s * m := Int.mul_pos (by omega) (by omega)
  rw [Int.mul_add] at h1
  exact ((Int.ediv_emod_unique M0).mpr ⟨show (A * m + V * n - s * m * P) + s * m * P = A * m + V * n by omega, by omega, by omega⟩).1
theorem rF_fold (hs : 1 ≤ s) (hm : 1 ≤ m) : foldI s (A * m + V * n) m = rF s A V n m := by
  have M0 : 0 < s * m := Int.mul_pos (by omega) (by omega)
  obtain ⟨d0, d1⟩ := rD_facts (A := A) (V := V) (n := n) hs hm
  have e : A * m + V * n = s * m * (rP s A V n m + 1) - rD s A V n m := by unfold rD; omega
  have e2 : 2 * s * m = 2 * (s * m) := Int.mul_assoc _ _ _
  unfold foldI rF
  rw [e2]
  generalize A * m + V * n = T at e ⊢
  generalize rP s A V n m = P at e ⊢
  generalize rD s A V n m = D at e d0 d1 ⊢
  by_cases hp : P % 2 = 0
  · have q : T % (2 * (s * m)) = s * m - D := by
      refine ((Int.ediv_emod_unique (q := P / 2) (by omega)).mpr ⟨?_, by omega, by omega⟩).2
      have : P = 2 * (P / 2) := by omega
      rw [e]
      generalize P / 2 = c at *
      subst this
      grind
    rw [q, if_pos (by omega), if_pos hp]
  · have q : T % (2 * (s * m)) = 2 * (s * m) - D := by
      refine ((Int.ediv_emod_unique (q := P / 2) (by omega)).mpr ⟨?_, by omega, by omega⟩).2
      have : P = 2 * (P / 2) + 1 := by omega
      rw [e]
      generalize P / 2 = c at *
      subst this
      grind
    rw [q, if_neg hp]
    split <;> omega
theorem pos_of_mul {c x : Int} (hc : 0 < c) (h : 0 < c * x) : 0 < x := by
  by_cases k : 0 < x
  · exact k
  · have : c * x ≤ c * 0 := Int.mul_le_mul_of_nonneg_left (by omega) (by omega)
    omega
theorem nonneg_of_mul {c x : Int} (hc : 0 < c) (h : 0 ≤ c * x) : 0 ≤ x := by
  by_cases k : 0 ≤ x
  · exact k
  · have : c * x ≤ c * (-1) := Int.mul_le_mul_of_nonneg_left (by omega) (by omega)
    omega
/-- a line goes on by w0 / w1, not farther than to its next cushion -/
theorem adv (hs : 1 ≤ s) (hm : 1 ≤ m) (hm' : 1 ≤ m') (hw : 1 ≤ w1) (hV : 0 ≤ V) (hw0 : 0 ≤ w0) (ht : n' * (m * w1) = (n * w1 + w0 * m) * m') (hle : V * w0 * m ≤ rD s A V n m * w1) :
    (V * w0 * m < rD s A V n m * w1 → rP s A V n' m' = rP s A V n m ∧ m * w1 * rD s A V n' m' = m' * (rD s A V n m * w1 - V * w0 * m)) ∧
    (V * w0 * m = rD s A V n m * w1 → rP s A V n' m' = rP s A V n m + 1 ∧ rD s A V n' m' = s * m' ∧ A * m' + V * n' = s * m' * (rP s A V n m + 1)) := by
  have M0 : 0 < s * m := Int.mul_pos (by omega) (by omega)
  have M1 : 0 < s * m' := Int.mul_pos (by omega) (by omega)
  have W0 : 0 < m * w1 := Int.mul_pos (by omega) (by omega)
  obtain ⟨d0, d1⟩ := rD_facts (A := A) (V := V) (n := n) hs hm
  have e : A * m + V * n = s * m * (rP s A V n m + 1) - rD s A V n m := by unfold rD; omega
  have key : m * w1 * (s * m' * (rP s A V n m + 1) - (A * m' + V * n')) = m' * (rD s A V n m * w1 - V * w0 * m) := by
    generalize rP s A V n m = P at *
    generalize rD s A V n m = D at *
    grind
  have key2 : m * w1 * ((A * m' + V * n') - s * m' * rP s A V n m) = m' * ((s * m - rD s A V n m) * w1 + V * w0 * m) := by
    generalize rP s A V n m = P at *
    generalize rD s A V n m = D at *
    grind
  have v0 : 0 ≤ V * w0 * m := Int.mul_nonneg (Int.mul_nonneg hV hw0) (by omega)
  have v1 : 0 ≤ (s * m - rD s A V n m) * w1 := Int.mul_nonneg (by omega) (by omega)
  have low : 0 ≤ (A * m' + V * n') - s * m' * rP s A V n m := nonneg_of_mul W0 (by rw [key2]; exact Int.mul_nonneg (by omega) (by omega))
  constructor
  · intro hlt
    have up : 0 < s * m' * (rP s A V n m + 1) - (A * m' + V * n') := pos_of_mul W0 (by rw [key]; exact Int.mul_pos (by omega) (by omega))
    have p : rP s A V n' m' = rP s A V n m := rP_of hs hm' (by omega) (by omega)
    refine ⟨p, ?_⟩
    rw [← key]
    unfold rD
    rw [p]
    try (unfold rD at key; rfl)
  · intro heq
    have z : m * w1 * (s * m' * (rP s A V n m + 1) - (A * m' + V * n')) = 0 := by rw [key, heq]; simp
    have z2 : s * m' * (rP s A V n m + 1) - (A * m' + V * n') = 0 := by
      rcases Int.mul_eq_zero.mp z with h | h
      · omega
      · exact h
    have p : rP s A V n' m' = rP s A V n m + 1 := rP_of hs hm' (by omega) (by rw [Int.mul_add (s * m') _ 1]; omega)
    refine ⟨p, ?_, by omega⟩
    have : rD s A V n' m' = s * m' * (rP s A V n m + 1 + 1) - (A * m' + V * n') := by unfold rD; rw [p]
    rw [this, Int.mul_add (s * m') _ 1]
    omega
/-- .. its folded number, as the ball's number and way tell it -/
theorem adv_place {R b : Int} (hs : 1 ≤ s) (hm : 1 ≤ m) (hm' : 1 ≤ m') (hw : 1 ≤ w1) (hV : 0 ≤ V) (hw0 : 0 ≤ w0) (ht : n' * (m * w1) = (n * w1 + w0 * m) * m') (hle : V * w0 * m ≤ rD s A V n m * w1)
    (hR : R * m = rF s A V n m * b) : (R * w1 + rW s A V n m * w0 * b) * m' = rF s A V n' m' * (b * w1) := by
  obtain ⟨h1, h2⟩ := adv hs hm hm' hw hV hw0 ht hle
  refine Int.eq_of_mul_eq_mul_left (show m ≠ 0 by omega) ?_
  have c : V * w0 * m < rD s A V n m * w1 ∨ V * w0 * m = rD s A V n m * w1 := by omega
  rcases c with c | c
  · obtain ⟨p, d⟩ := h1 c
    unfold rF rW at *
    rw [p]
    generalize rP s A V n m = P at *
    generalize rD s A V n m = D at *
    generalize rD s A V n' m' = D' at *
    by_cases hp : P % 2 = 0
    · simp only [if_pos hp] at *
      grind
    · simp only [if_neg hp] at *
      grind
  · obtain ⟨p, d, -⟩ := h2 c
    unfold rF rW at *
    rw [p, d]
    generalize rP s A V n m = P at *
    generalize rD s A V n m = D at *
    by_cases hp : P % 2 = 0
    · rw [if_neg (show ¬ (P + 1) % 2 = 0 by omega)]
      simp only [if_pos hp] at *
      grind
    · rw [if_pos (show (P + 1) % 2 = 0 by omega)]
      simp only [if_neg hp] at *
      grind
/-- how far it is to the next cushion, as the ball's number and way tell it -/
theorem step_dist {R b : Int} (hs : 1 ≤ s) (hm : 1 ≤ m) (hb : 1 ≤ b) (hR : R * m = rF s A V n m * b) :
    0 ≤ R ∧ R ≤ s * b ∧ (rP s A V n m % 2 = 0 → (s * b - R) * m = rD s A V n m * b) ∧ (rP s A V n m % 2 ≠ 0 → R * m = rD s A V n m * b) := by
  obtain ⟨d0, d1⟩ := rD_facts (A := A) (V := V) (n := n) hs hm
  have f0 : 0 ≤ rF s A V n m ∧ rF s A V n m ≤ s * m := by unfold rF; split <;> omega
  have r0 : 0 ≤ R := nonneg_of_mul (c := m) (by omega) (by rw [Int.mul_comm, hR]; exact Int.mul_nonneg f0.1 (by omega))
  have r1 : 0 ≤ s * b - R := nonneg_of_mul (c := m) (by omega) (by
    have : m * (s * b - R) = (s * m - rF s A V n m) * b := by
      generalize rF s A V n m = F at *
      grind
    rw [this]
    exact Int.mul_nonneg (by omega) (by omega))
  refine ⟨r0, by omega, fun hp => ?_, fun hp => ?_⟩
  · unfold rF at hR
    rw [if_pos hp] at hR
    generalize rD s A V n m = D at *
    grind
  · unfold rF at hR
    rw [if_neg hp] at hR
    exact hR
end
theorem fracD_ratio {t1 b1 t2 b2 : Int} (h1 : 1 ≤ b1) (h2 : 1 ≤ b2) (e : t1 * b2 = t2 * b1) : fracD t1 b1 = fracD t2 b2 := by
  obtain ⟨e2, p2, c2⟩ := low_facts (t := t2) h2
  have q : fracD t2 b2 = .tuple [.int (t2 / (Nat.gcd t2.natAbs b2.natAbs : Nat)), .int (b2 / (Nat.gcd t2.natAbs b2.natAbs : Nat))] := rfl
  rw [q]
  refine low_unique h1 p2 c2 ?_
  refine Int.eq_of_mul_eq_mul_right (show b2 ≠ 0 by omega) ?_
  generalize t2 / (Nat.gcd t2.natAbs b2.natAbs : Nat) = r at *
  generalize b2 / (Nat.gcd t2.natAbs b2.natAbs : Nat) = d at *
  grind
def lowP (t b : Int) : Int × Int := (t / (Nat.gcd t.natAbs b.natAbs : Nat), b / (Nat.gcd t.natAbs b.natAbs : Nat))
/-- both lines of a shot: side, start, speed of each -/
structure Ls where
  s : Int
  A : Int
  V : Int
  z : Int
  B : Int
  U : Int
structure Ls.Ok (L : Ls) : Prop where
  s1 : 1 ≤ L.s
  z1 : 1 ≤ L.z
  v0 : 0 ≤ L.V
  u0 : 0 ≤ L.U
  w : L.V ≠ 0 ∨ L.U ≠ 0
  a0 : -L.s ≤ L.A
  a1 : L.A ≤ L.s
  b0 : -L.z ≤ L.B
  b1 : L.B ≤ L.z
namespace Ls
variable (L : Ls) (t : Int × Int)
def P : Int := rP L.s L.A L.V t.1 t.2
def P' : Int := rP L.z L.B L.U t.1 t.2
def D : Int := rD L.s L.A L.V t.1 t.2
def D' : Int := rD L.z L.B L.U t.1 t.2
def F : Int := rF L.s L.A L.V t.1 t.2
def F' : Int := rF L.z L.B L.U t.1 t.2
def W : Int := rW L.s L.A L.V t.1 t.2
def W' : Int := rW L.z L.B L.U t.1 t.2
def first : Bool := decide (L.V ≠ 0) && (decide (L.U = 0) || decide (L.D t * L.U ≤ L.D' t * L.V))
def next : Int × Int := if L.first t = true then lowP ((L.P t + 1) * L.s - L.A) L.V else lowP ((L.P' t + 1) * L.z - L.B) L.U
def «at» : Nat → Int × Int
  | 0 => (0, 1)
  | k + 1 => L.next («at» k)
end Ls
def letter (s A V n m : Int) (e w : Str) : Str := if V ≠ 0 ∧ (A * m + V * n) % (s * m) = 0 then (if rP s A V n m % 2 = 0 then w else e) else ""
namespace Ls
variable (L : Ls) (t : Int × Int)
def word : Str := letter L.s L.A L.V t.1 t.2 "E" "W" ++ letter L.z L.B L.U t.1 t.2 "N" "S"
def place : PyData := .tuple [fracD (L.F t) t.2, fracD (L.F' t) t.2]
def row : PyData := .tuple [.tuple [.int t.1, .int t.2], .str (L.word t), L.place t]
def rows (k : Nat) : List PyData := (List.range k).map fun i => L.row (L.at (i + 1))
def ball : PyData := .list [fracD (L.F t) t.2, fracD (L.F' t) t.2, .int (L.W t), .int (L.W' t)]
/-- how long it is from t to the next hit -/
def wait : PyData := if L.first t = true then fracD (L.D t) (t.2 * L.V) else fracD (L.D' t) (t.2 * L.U)
end Ls
theorem cross_lt {c a a' b b' : Int} {e : Int} (hc : 0 < c) (he : 0 < e) (h1 : a * c = a' * e) (h2 : b * c = b' * e) : a < b ↔ a' < b' := by
  constructor
  · intro h
    have : a * c < b * c := Int.mul_lt_mul_of_pos_right h hc
    rw [h1, h2] at this
    exact Int.lt_of_mul_lt_mul_right this (by omega)
  · intro h
    have : a' * e < b' * e := Int.mul_lt_mul_of_pos_right h he
    rw [← h1, ← h2] at this
    exact Int.lt_of_mul_lt_mul_right this (by omega)
/-- the reduced fraction of D / (m V): its two numbers -/
theorem red {D m V : Int} (hD : 0 < D) (hm : 1 ≤ m) (hV : 0 < V) : ∃ u d : Int, fracD D (m * V) = .tuple [.int u, .int d] ∧ 1 ≤ d ∧ 0 < u ∧ Nat.gcd u.natAbs d.natAbs = 1 ∧ u * (m * V) = D * d ∧ d ≤ m * V ∧ u ≤ D := by
  have M : 0 < m * V := Int.mul_pos (by omega) hV
  obtain ⟨e, p, c⟩ := low_facts (t := D) (m := m * V) (by omega)
  have g := gcd_pos (t := D) (b := m * V) (by omega)
  have e2 := Int.ediv_mul_cancel (gcd_dvd_r D (m * V))
  have e1 := Int.ediv_mul_cancel (gcd_dvd_l D (m * V))
  refine ⟨_, _, rfl, p, ?_, c, e, ?_, ?_⟩
  · refine pos_of_mul (c := m * V) M ?_
    rw [Int.mul_comm, e]
    exact Int.mul_pos hD (by omega)
  · have : (m * V) / (Nat.gcd D.natAbs (m * V).natAbs : Nat) * 1 ≤ (m * V) / (Nat.gcd D.natAbs (m * V).natAbs : Nat) * (Nat.gcd D.natAbs (m * V).natAbs : Nat) := Int.mul_le_mul_of_nonneg_left (by omega) (by omega)
    omega
  · have q : 0 ≤ D / (Nat.gcd D.natAbs (m * V).natAbs : Nat) := Int.ediv_nonneg (by omega) (by omega)
    have : D / (Nat.gcd D.natAbs (m * V).natAbs : Nat) * 1 ≤ D / (Nat.gcd D.natAbs (m * V).natAbs : Nat) * (Nat.gcd D.natAbs (m * V).natAbs : Nat) := Int.mul_le_mul_of_nonneg_left (by omega) q
    omega
theorem lowP_of {t b n m : Int} (h : fracD t b = .tuple [.int n, .int m]) : lowP t b = (n, m) := by
  unfold fracD at h
  simp only [PyData.tuple.injEq, List.cons.injEq, PyData.int.injEq, and_true] at h
  unfold lowP
  rw [h.1, h.2]
/-- what holds at each hit -/
structure Ls.Good (L : Ls) (k : Int) (t : Int × Int) : Prop where
  m1 : 1 ≤ t.2
  g : Nat.gcd t.1.natAbs t.2.natAbs = 1
  n0 : 0 ≤ t.1
  p0 : -1 ≤ L.P t
  p1 : L.P t ≤ k + 1
  q0 : -1 ≤ L.P' t
  q1 : L.P' t ≤ k + 1
/-- one step of the rolling -/
theorem Ls.step (L : Ls) (ok : L.Ok) {k : Int} {t : Int × Int} (G : L.Good k t) : ∃ w0 w1 : Int, L.wait t = .tuple [.int w0, .int w1] ∧ 1 ≤ w1 ∧ 0 < w0 ∧ Nat.gcd w0.natAbs w1.natAbs = 1 ∧
    fracD (t.1 * w1 + w0 * t.2) (t.2 * w1) = .tuple [.int (L.next t).1, .int (L.next t).2] ∧ 1 ≤ (L.next t).2 ∧ Nat.gcd (L.next t).1.natAbs (L.next t).2.natAbs = 1 ∧ (L.next t).1 * (t.2 * w1) = (t.1 * w1 + w0 * t.2) * (L.next t).2 ∧
    L.V * w0 * t.2 ≤ L.D t * w1 ∧ L.U * w0 * t.2 ≤ L.D' t * w1 ∧ (L.first t = true → L.V * w0 * t.2 = L.D t * w1) ∧ (L.first t = false → L.U * w0 * t.2 = L.D' t * w1) := by
  obtain ⟨n, m⟩ := t
  obtain ⟨s1, z1, v0, u0, w, a0, a1, b0, b1⟩ := ok
  have m1 : 1 ≤ m := G.m1
  obtain ⟨d0, d1⟩ := rD_facts (A := L.A) (V := L.V) (n := n) s1 m1
  obtain ⟨e0, e1⟩ := rD_facts (A := L.B) (V := L.U) (n := n) z1 m1
  have dd : L.D (n, m) = L.s * m * (L.P (n, m) + 1) - (L.A * m + L.V * n) := rfl
  have ee : L.D' (n, m) = L.z * m * (L.P' (n, m) + 1) - (L.B * m + L.U * n) := rfl
  have d0 : 0 < L.D (n, m) := d0
  have e0 : 0 < L.D' (n, m) := e0
  have hn0 : 0 ≤ n := G.n0
  have main : ∀ (V D s A P : Int), 0 < V → 0 < D → D = s * m * (P + 1) - (A * m + V * n) → ∃ w0 w1 : Int, fracD D (m * V) = .tuple [.int w0, .int w1] ∧ 1 ≤ w1 ∧ 0 < w0 ∧ Nat.gcd w0.natAbs w1.natAbs = 1 ∧ V * w0 * m = D * w1 ∧ w0 * (m * V) = D * w1 ∧
      fracD (n * w1 + w0 * m) (m * w1) = .tuple [.int (lowP ((P + 1) * s - A) V).1, .int (lowP ((P + 1) * s - A) V).2] ∧ 1 ≤ (lowP ((P + 1) * s - A) V).2 ∧ Nat.gcd (lowP ((P + 1) * s - A) V).1.natAbs (lowP ((P + 1) * s - A) V).2.natAbs = 1 ∧ (lowP ((P + 1) * s - A) V).1 * (m * w1) = (n * w1 + w0 * m) * (lowP ((P + 1) * s - A) V).2 := by
    intro V D s A P hV hD hd
    obtain ⟨u, d, r1, r2, r3, r4, r5, -, -⟩ := red hD m1 hV
    have M : 0 < m * d := Int.mul_pos (by omega) (by omega)
    have hr : fracD (n * d + u * m) (m * d) = fracD ((P + 1) * s - A) V := fracD_ratio (by omega) (by omega) (by grind)
    obtain ⟨f1, f2, f3⟩ := low_facts (t := (P + 1) * s - A) (m := V) (by omega)
    obtain ⟨h1, -, -⟩ := low_facts (t := n * d + u * m) (m := m * d) (by omega)
    have hr' := hr
    unfold fracD at hr'
    simp only [PyData.tuple.injEq, List.cons.injEq, PyData.int.injEq, and_true] at hr'
    refine ⟨u, d, r1, r2, r3, r4, by rw [← r5]; simp only [Int.mul_assoc, Int.mul_comm, Int.mul_left_comm], r5, hr, f2, f3, ?_⟩
    unfold lowP
    rw [← hr'.1, ← hr'.2]
    exact h1
  cases hf : L.first (n, m) with
  | true =>
    have hV : 0 < L.V := by
      unfold first at hf
      simp only [Bool.and_eq_true, decide_eq_true_eq] at hf
      omega
    obtain ⟨w0, w1, r1, r2, r3, r4, r5, r6, r7, r8, r9, r10⟩ := main L.V (L.D (n, m)) L.s L.A (L.P (n, m)) hV d0 dd
    have en : L.next (n, m) = lowP ((L.P (n, m) + 1) * L.s - L.A) L.V := by unfold next; rw [if_pos hf]
    have ew : L.wait (n, m) = fracD (L.D (n, m)) (m * L.V) := by unfold wait; rw [if_pos hf]
    rw [en, ew]
    refine ⟨w0, w1, r1, r2, r3, r4, r7, r8, r9, r10, by show L.V * w0 * m ≤ _; omega, ?_, fun _ => r5, fun h => by cases h⟩
    show L.U * w0 * m ≤ _
    unfold first at hf
    simp only [Bool.and_eq_true, Bool.or_eq_true, decide_eq_true_eq] at hf
    rcases hf.2 with h | h
    · rw [h]
      have : 0 ≤ L.D' (n, m) * w1 := Int.mul_nonneg (by omega) (by omega)
      simpa using this
    · refine Int.le_of_mul_le_mul_left (a := L.V) ?_ hV
      have : L.V * (L.U * w0 * m) = L.D (n, m) * L.U * w1 := by
        generalize L.D (n, m) = D at *
        grind
      rw [this, ← Int.mul_assoc, Int.mul_comm L.V]
      exact Int.mul_le_mul_of_nonneg_right h (by omega)
  | false =>
    have hU : 0 < L.U := by
      unfold first at hf
      simp only [Bool.and_eq_false_iff, Bool.or_eq_false_iff, decide_eq_false_iff_not] at hf
      omega
    obtain ⟨w0, w1, r1, r2, r3, r4, r5, r6, r7, r8, r9, r10⟩ := main L.U (L.D' (n, m)) L.z L.B (L.P' (n, m)) hU e0 ee
    have en : L.next (n, m) = lowP ((L.P' (n, m) + 1) * L.z - L.B) L.U := by unfold next; rw [if_neg (by rw [hf]; decide)]
    have ew : L.wait (n, m) = fracD (L.D' (n, m)) (m * L.U) := by unfold wait; rw [if_neg (by rw [hf]; decide)]
    rw [en, ew]
    refine ⟨w0, w1, r1, r2, r3, r4, r7, r8, r9, r10, ?_, by show L.U * w0 * m ≤ _; omega, fun h => (by cases h), fun _ => r5⟩
    show L.V * w0 * m ≤ _
    unfold first at hf
    simp only [Bool.and_eq_false_iff, Bool.or_eq_false_iff, decide_eq_false_iff_not] at hf
    by_cases hz : L.V = 0
    · rw [hz]
      have : 0 ≤ L.D (n, m) * w1 := Int.mul_nonneg (by omega) (by omega)
      simpa using this
    · have h : L.D' (n, m) * L.V < L.D (n, m) * L.U := by
        rcases hf with h | ⟨_, h⟩
        · exact absurd hz h
        · omega
      refine Int.le_of_mul_le_mul_left (a := L.U) ?_ hU
      have : L.U * (L.V * w0 * m) = L.D' (n, m) * L.V * w1 := by
        generalize L.D' (n, m) = D at *
        grind
      rw [this, ← Int.mul_assoc, Int.mul_comm L.U]
      exact Int.mul_le_mul_of_nonneg_right (by omega) (by omega)
theorem line_hit {s A V n m n' m' w0 w1 : Int} (hs : 1 ≤ s) (hm : 1 ≤ m) (hm' : 1 ≤ m') (hw : 1 ≤ w1) (hV : 0 < V) (hw0 : 0 < w0) (ht : n' * (m * w1) = (n * w1 + w0 * m) * m') (hle : V * w0 * m ≤ rD s A V n m * w1) :
    (A * m' + V * n') % (s * m') = 0 ↔ V * w0 * m = rD s A V n m * w1 := by
  obtain ⟨h1, h2⟩ := adv hs hm hm' hw (by omega) (by omega) ht hle
  have M1 : 0 < s * m' := Int.mul_pos (by omega) (by omega)
  have W0 : 0 < m * w1 := Int.mul_pos (by omega) (by omega)
  obtain ⟨d0, d1⟩ := rD_facts (A := A) (V := V) (n := n) hs hm
  constructor
  · intro h
    by_cases c : V * w0 * m = rD s A V n m * w1
    · exact c
    · exfalso
      obtain ⟨p, d⟩ := h1 (by omega)
      obtain ⟨f0, f1⟩ := rD_facts (A := A) (V := V) (n := n') hs hm'
      have v0 : 0 < V * w0 * m := Int.mul_pos (Int.mul_pos hV hw0) (by omega)
      have v1 : 0 ≤ (s * m - rD s A V n m) * w1 := Int.mul_nonneg (by omega) (by omega)
      have e : m * w1 * (s * m' - rD s A V n' m') = m' * ((s * m - rD s A V n m) * w1 + V * w0 * m) := by
        generalize rD s A V n m = D at *
        generalize rD s A V n' m' = D' at *
        grind
      have lt : 0 < s * m' - rD s A V n' m' := pos_of_mul W0 (by rw [e]; exact Int.mul_pos (by omega) (by omega))
      have eT : A * m' + V * n' = (s * m' - rD s A V n' m') + s * m' * rP s A V n' m' := by
        have : rD s A V n' m' = s * m' * (rP s A V n' m' + 1) - (A * m' + V * n') := rfl
        rw [Int.mul_add] at this
        omega
      rw [eT, Int.add_mul_emod_self_left, Int.emod_eq_of_lt (by omega) (by omega)] at h
      omega
  · intro h
    obtain ⟨-, -, e⟩ := h2 h
    rw [e]
    exact Int.mul_emod_right _ _
theorem eq_wait {D m V w0 w1 : Int} (hm : 1 ≤ m) (hV : 0 < V) (hw : 1 ≤ w1) (g : Nat.gcd w0.natAbs w1.natAbs = 1) : fracD D (m * V) = .tuple [.int w0, .int w1] ↔ V * w0 * m = D * w1 := by
  have M : 0 < m * V := Int.mul_pos (by omega) hV
  have e : w0 * (m * V) = V * w0 * m := by simp only [Int.mul_assoc, Int.mul_comm, Int.mul_left_comm]
  constructor
  · intro h
    obtain ⟨h1, -, -⟩ := low_facts (t := D) (m := m * V) (by omega)
    unfold fracD at h
    simp only [PyData.tuple.injEq, List.cons.injEq, PyData.int.injEq, and_true] at h
    rw [h.1, h.2] at h1
    omega
  · intro h
    exact low_unique (by omega) hw g (by omega)
theorem letter_is {s A V n m n' m' w0 w1 : Int} {e w : Str} (hs : 1 ≤ s) (hm : 1 ≤ m) (hm' : 1 ≤ m') (hw : 1 ≤ w1) (hV : 0 ≤ V) (hw0 : 0 < w0) (ht : n' * (m * w1) = (n * w1 + w0 * m) * m') (hle : V * w0 * m ≤ rD s A V n m * w1) :
    letter s A V n' m' e w = if V ≠ 0 ∧ (A * m' + V * n') % (s * m') = 0 then (if rW s A V n m > 0 then e else w) else "" := by
  unfold letter
  by_cases h : V ≠ 0 ∧ (A * m' + V * n') % (s * m') = 0
  · rw [if_pos h, if_pos h]
    obtain ⟨h1, h2⟩ := h
    have hV' : 0 < V := by omega
    rw [line_hit hs hm hm' hw hV' hw0 ht hle] at h2
    obtain ⟨p, -, -⟩ := (adv hs hm hm' hw hV (by omega) ht hle).2 h2
    rw [p]
    unfold rW
    by_cases c : rP s A V n m % 2 = 0
    · rw [if_pos c, if_neg (by omega), if_pos hV']
    · rw [if_neg c, if_pos (by omega), if_neg (by omega)]
  · rw [if_neg h, if_neg h]
theorem way_is {s A V n m n' m' w0 w1 : Int} (hs : 1 ≤ s) (hm : 1 ≤ m) (hm' : 1 ≤ m') (hw : 1 ≤ w1) (hV : 0 ≤ V) (hw0 : 0 < w0) (ht : n' * (m * w1) = (n * w1 + w0 * m) * m') (hle : V * w0 * m ≤ rD s A V n m * w1) :
    rW s A V n' m' = if V ≠ 0 ∧ (A * m' + V * n') % (s * m') = 0 then -rW s A V n m else rW s A V n m := by
  by_cases hz : V = 0
  · rw [if_neg (by simp [hz])]
    unfold rW
    rw [hz]
    split <;> split <;> rfl
  · have hV' : 0 < V := by omega
    have k := line_hit hs hm hm' hw hV' hw0 ht hle
    obtain ⟨h1, h2⟩ := adv hs hm hm' hw hV (by omega) ht hle
    by_cases h : V * w0 * m = rD s A V n m * w1
    · rw [if_pos ⟨hz, k.mpr h⟩]
      obtain ⟨p, -, -⟩ := h2 h
      unfold rW
      rw [p]
      by_cases c : rP s A V n m % 2 = 0
      · rw [if_neg (by omega), if_pos c]
      · rw [if_pos (by omega), if_neg c, Int.neg_neg]
    · rw [if_neg (fun z => h (k.mp z.2))]
      obtain ⟨p, -⟩ := h1 (by omega)
      unfold rW
      rw [p]
theorem place_is {s A V n m n' m' w0 w1 R b : Int} (hs : 1 ≤ s) (hm : 1 ≤ m) (hm' : 1 ≤ m') (hw : 1 ≤ w1) (hV : 0 ≤ V) (hw0 : 0 < w0) (ht : n' * (m * w1) = (n * w1 + w0 * m) * m') (hle : V * w0 * m ≤ rD s A V n m * w1)
    (hR : fracD (rF s A V n m) m = .tuple [.int R, .int b]) : fracD (R * w1 + rW s A V n m * w0 * b) (b * w1) = fracD (rF s A V n' m') m' := by
  obtain ⟨h1, h2, -⟩ := low_facts (t := rF s A V n m) (m := m) hm
  unfold fracD at hR
  simp only [PyData.tuple.injEq, List.cons.injEq, PyData.int.injEq, and_true] at hR
  rw [hR.1, hR.2] at h1
  rw [hR.2] at h2
  have B : 0 < b * w1 := Int.mul_pos (by omega) (by omega)
  exact fracD_ratio (by omega) hm' (adv_place hs hm hm' hw hV (by omega) ht hle h1)
theorem stepD_is {s A V n m R b : Int} (hs : 1 ≤ s) (hm : 1 ≤ m) (hV : 0 ≤ V) (hR : fracD (rF s A V n m) m = .tuple [.int R, .int b]) : stepD s R b (rW s A V n m) = if V = 0 then .none else fracD (rD s A V n m) (m * V) := by
  obtain ⟨h1, h2, -⟩ := low_facts (t := rF s A V n m) (m := m) hm
  unfold fracD at hR
  simp only [PyData.tuple.injEq, List.cons.injEq, PyData.int.injEq, and_true] at hR
  rw [hR.1, hR.2] at h1
  rw [hR.2] at h2
  obtain ⟨r0, r1, r2, r3⟩ := step_dist (A := A) (V := V) (n := n) hs hm h2 h1
  unfold stepD
  by_cases hz : V = 0
  · have : rW s A V n m = 0 := by unfold rW; rw [hz]; split <;> rfl
    rw [if_pos this, if_pos hz]
  · rw [if_neg hz]
    have hV' : 0 < V := by omega
    have B : 0 < b * V := Int.mul_pos (by omega) hV'
    have M : 0 < m * V := Int.mul_pos (by omega) hV'
    unfold rW
    by_cases c : rP s A V n m % 2 = 0
    · rw [if_pos c, if_neg hz, if_pos hV']
      have e1 : absI (s * b - R) = s * b - R := by unfold absI; rw [if_neg (by omega)]
      have e2 : absI V = V := by unfold absI; rw [if_neg (by omega)]
      rw [e1, e2]
      have := r2 c
      exact fracD_ratio (by omega) (by omega) (by rw [← Int.mul_assoc, this, Int.mul_assoc])
    · rw [if_neg c, if_neg (by omega), if_neg (by omega)]
      have e1 : absI (0 - R) = R := by unfold absI; split <;> omega
      have e2 : absI (-V) = V := by unfold absI; rw [if_pos (by omega), Int.neg_neg]
      rw [e1, e2]
      have := r3 c
      exact fracD_ratio (by omega) (by omega) (by rw [← Int.mul_assoc, this, Int.mul_assoc])
namespace Ls
variable (L : Ls) (t : Int × Int)
def hit : Bool := decide (L.V ≠ 0 ∧ (L.A * t.2 + L.V * t.1) % (L.s * t.2) = 0)
def hit' : Bool := decide (L.U ≠ 0 ∧ (L.B * t.2 + L.U * t.1) % (L.z * t.2) = 0)
def O : PyData := if L.V = 0 then .none else fracD (L.D t) (t.2 * L.V)
def O' : PyData := if L.U = 0 then .none else fracD (L.D' t) (t.2 * L.U)
end Ls
theorem opEq_tt {a b c e : Int} : opEq (.tuple [.int a, .int b]) (.tuple [.int c, .int e]) = some (.bool (decide (a = c) && decide (b = e))) := by
  unfold opEq SeqAt.shaped
  simp [PyData.canLay0, PyData.canLayAll0, PyData.depth, PyData.depthAll, PyData.eqv, PyData.eqvAll]
  by_cases h : a = c <;> by_cases h2 : b = e <;> simp [h, h2]
theorem opEq_nt {c e : Int} : opEq .none (.tuple [.int c, .int e]) = some (.bool false) := by
  unfold opEq SeqAt.shaped
  simp [PyData.canLay0, PyData.canLayAll0, PyData.depth, PyData.depthAll, PyData.eqv, PyData.eqvAll]
/-- everything that a turn of the rolling's loop finds -/
structure Ls.Turn (L : Ls) (k : Int) (t : Int × Int) (w0 w1 : Int) : Prop where
  wait : L.wait t = .tuple [.int w0, .int w1]
  q1 : 1 ≤ w1
  q0 : 0 < w0
  now : fracD (t.1 * w1 + w0 * t.2) (t.2 * w1) = .tuple [.int (L.next t).1, .int (L.next t).2]
  eq1 : opEq (L.O t) (.tuple [.int w0, .int w1]) = some (.bool (L.hit (L.next t)))
  eq2 : opEq (L.O' t) (.tuple [.int w0, .int w1]) = some (.bool (L.hit' (L.next t)))
  word1 : letter L.s L.A L.V (L.next t).1 (L.next t).2 "E" "W" = if L.hit (L.next t) = true then (if L.W t > 0 then ("E" : Str) else ("W" : Str)) else ("" : Str)
  word2 : letter L.z L.B L.U (L.next t).1 (L.next t).2 "N" "S" = if L.hit' (L.next t) = true then (if L.W' t > 0 then ("N" : Str) else ("S" : Str)) else ("" : Str)
  way1 : L.W (L.next t) = if L.hit (L.next t) = true then -L.W t else L.W t
  way2 : L.W' (L.next t) = if L.hit' (L.next t) = true then -L.W' t else L.W' t
  pl1 : ∀ R b, fracD (L.F t) t.2 = .tuple [.int R, .int b] → fracD (R * w1 + L.W t * w0 * b) (b * w1) = fracD (L.F (L.next t)) (L.next t).2
  pl2 : ∀ R b, fracD (L.F' t) t.2 = .tuple [.int R, .int b] → fracD (R * w1 + L.W' t * w0 * b) (b * w1) = fracD (L.F' (L.next t)) (L.next t).2
  good : L.Good (k + 1) (L.next t)
  z0 : w0 ≤ L.s * t.2 ∨ w0 ≤ L.z * t.2
  z1 : w1 ≤ t.2 * L.V ∨ w1 ≤ t.2 * L.U
theorem Ls.turn (L : Ls) (ok : L.Ok) {k : Int} {t : Int × Int} (G : L.Good k t) : ∃ w0 w1 : Int, L.Turn k t w0 w1 := by
  obtain ⟨w0, w1, h1, h2, h3, h4, h5, h6, h7, h8, h9, h10, h11, h12⟩ := L.step ok G
  have m1 := G.m1
  obtain ⟨d0, d1⟩ := rD_facts (A := L.A) (V := L.V) (n := t.1) ok.s1 m1
  obtain ⟨e0, e1⟩ := rD_facts (A := L.B) (V := L.U) (n := t.1) ok.z1 m1
  have w0' : 0 ≤ w0 := by omega
  have a1 := adv ok.s1 m1 h6 h2 ok.v0 w0' h8 h9
  have a2 := adv ok.z1 m1 h6 h2 ok.u0 w0' h8 h10
  have n0 : 0 ≤ (L.next t).1 := by
    have W : 0 < t.2 * w1 := Int.mul_pos (by omega) (by omega)
    refine nonneg_of_mul W ?_
    rw [Int.mul_comm, h8]
    have : 0 ≤ t.1 * w1 := Int.mul_nonneg G.n0 (by omega)
    have : 0 ≤ w0 * t.2 := Int.mul_nonneg (by omega) (by omega)
    exact Int.mul_nonneg (by omega) (by omega)
  have c1 : L.V * w0 * t.2 < L.D t * w1 ∨ L.V * w0 * t.2 = L.D t * w1 := by omega
  have c2 : L.U * w0 * t.2 < L.D' t * w1 ∨ L.U * w0 * t.2 = L.D' t * w1 := by omega
  have g1 : -1 ≤ L.P (L.next t) ∧ L.P (L.next t) ≤ k + 1 + 1 := by
    have i0 := G.p0
    have i1 := G.p1
    rcases c1 with c | c
    · have := (a1.1 c).1
      show -1 ≤ rP _ _ _ _ _ ∧ rP _ _ _ _ _ ≤ _
      rw [this]
      exact ⟨i0, by show L.P t ≤ _; omega⟩
    · have := (a1.2 c).1
      show -1 ≤ rP _ _ _ _ _ ∧ rP _ _ _ _ _ ≤ _
      rw [this]
      exact ⟨by show _ ≤ L.P t + 1; omega, by show L.P t + 1 ≤ _; omega⟩
  have g2 : -1 ≤ L.P' (L.next t) ∧ L.P' (L.next t) ≤ k + 1 + 1 := by
    have i0 := G.q0
    have i1 := G.q1
    rcases c2 with c | c
    · have := (a2.1 c).1
      show -1 ≤ rP _ _ _ _ _ ∧ rP _ _ _ _ _ ≤ _
      rw [this]
      exact ⟨i0, by show L.P' t ≤ _; omega⟩
    · have := (a2.2 c).1
      show -1 ≤ rP _ _ _ _ _ ∧ rP _ _ _ _ _ ≤ _
      rw [this]
      exact ⟨by show _ ≤ L.P' t + 1; omega, by show L.P' t + 1 ≤ _; omega⟩
  have q : ∀ (s A V D : Int) (h : Bool), 0 ≤ V → (V ≠ 0 → ((A * (L.next t).2 + V * (L.next t).1) % (s * (L.next t).2) = 0 ↔ V * w0 * t.2 = D * w1)) → h = decide (V ≠ 0 ∧ (A * (L.next t).2 + V * (L.next t).1) % (s * (L.next t).2) = 0) → opEq (if V = 0 then .none else fracD D (t.2 * V)) (.tuple [.int w0, .int w1]) = some (.bool h) := by
    intro s A V D h hV hk hh
    by_cases hz : V = 0
    · rw [if_pos hz, hh, decide_eq_false (by simp [hz])]
      exact opEq_nt
    · rw [if_neg hz]
      have k2 := eq_wait (D := D) m1 (show 0 < V by omega) h2 h4
      rw [← hk hz] at k2
      have k3 := k2
      unfold fracD at k3 ⊢
      simp only [PyData.tuple.injEq, List.cons.injEq, PyData.int.injEq, and_true] at k3
      rw [opEq_tt, hh]
      congr 2
      rw [Bool.eq_iff_iff]
      simp only [Bool.and_eq_true, decide_eq_true_eq]
      exact ⟨fun z => ⟨hz, k3.mp z⟩, fun z => k3.mpr z.2⟩
  refine ⟨w0, w1, ⟨h1, h2, h3, h5, ?_, ?_, ?_, ?_, ?_, ?_, fun R b hR => place_is ok.s1 m1 h6 h2 ok.v0 h3 h8 h9 hR, fun R b hR => place_is ok.z1 m1 h6 h2 ok.u0 h3 h8 h10 hR, ⟨h6, h7, n0, g1.1, g1.2, g2.1, g2.2⟩, ?_, ?_⟩⟩
  · exact q L.s L.A L.V (L.D t) _ ok.v0 (fun hz => line_hit ok.s1 m1 h6 h2 (by have := ok.v0; omega) h3 h8 h9) rfl
  · exact q L.z L.B L.U (L.D' t) _ ok.u0 (fun hz => line_hit ok.z1 m1 h6 h2 (by have := ok.u0; omega) h3 h8 h10) rfl
  · rw [letter_is ok.s1 m1 h6 h2 ok.v0 h3 h8 h9]
    unfold hit
    simp only [decide_eq_true_eq]
    rfl
  · rw [letter_is ok.z1 m1 h6 h2 ok.u0 h3 h8 h10]
    unfold hit'
    simp only [decide_eq_true_eq]
    rfl
  · have := way_is ok.s1 m1 h6 h2 ok.v0 h3 h8 h9
    unfold hit
    simp only [decide_eq_true_eq]
    exact this
  · have := way_is ok.z1 m1 h6 h2 ok.u0 h3 h8 h10
    unfold hit'
    simp only [decide_eq_true_eq]
    exact this
  · unfold wait at h1
    by_cases hf : L.first t = true
    · rw [if_pos hf] at h1
      have hV : 0 < L.V := by
        unfold first at hf
        simp only [Bool.and_eq_true, decide_eq_true_eq] at hf
        have := ok.v0; omega
      obtain ⟨u, d, r1, -, -, -, -, -, r7⟩ := red (D := L.D t) d0 m1 hV
      rw [r1] at h1
      cases h1
      exact .inl (Int.le_trans r7 d1)
    · rw [if_neg hf] at h1
      have hU : 0 < L.U := by
        unfold first at hf
        simp only [Bool.not_eq_true, Bool.and_eq_false_iff, Bool.or_eq_false_iff, decide_eq_false_iff_not] at hf
        have := ok.u0; have := ok.w; omega
      obtain ⟨u, d, r1, -, -, -, -, -, r7⟩ := red (D := L.D' t) e0 m1 hU
      rw [r1] at h1
      cases h1
      exact .inr (Int.le_trans r7 e1)
  · unfold wait at h1
    by_cases hf : L.first t = true
    · rw [if_pos hf] at h1
      have hV : 0 < L.V := by
        unfold first at hf
        simp only [Bool.and_eq_true, decide_eq_true_eq] at hf
        have := ok.v0; omega
      obtain ⟨u, d, r1, -, -, -, -, r6, -⟩ := red (D := L.D t) d0 m1 hV
      rw [r1] at h1
      cases h1
      exact .inl r6
    · rw [if_neg hf] at h1
      have hU : 0 < L.U := by
        unfold first at hf
        simp only [Bool.not_eq_true, Bool.and_eq_false_iff, Bool.or_eq_false_iff, decide_eq_false_iff_not] at hf
        have := ok.u0; have := ok.w; omega
      obtain ⟨u, d, r1, -, -, -, -, r6, -⟩ := red (D := L.D' t) e0 m1 hU
      rw [r1] at h1
      cases h1
      exact .inr r6
theorem Ls.next_le (L : Ls) (ok : L.Ok) {k : Int} {t : Int × Int} (G : L.Good k t) : ((L.next t).1 ≤ (k + 3) * L.s ∨ (L.next t).1 ≤ (k + 3) * L.z) ∧ ((L.next t).2 ≤ L.V ∨ (L.next t).2 ≤ L.U) := by
  have main : ∀ (s A V P : Int), 1 ≤ s → -s ≤ A → A ≤ s → 0 < V → P ≤ k + 1 → 0 ≤ (P + 1) * s - A → (lowP ((P + 1) * s - A) V).1 ≤ (k + 3) * s ∧ (lowP ((P + 1) * s - A) V).2 ≤ V := by
    intro s A V P hs h0 h1 hV hP hq
    unfold lowP
    have e1 := Int.ediv_le_self (a := (P + 1) * s - A) (Nat.gcd ((P + 1) * s - A).natAbs V.natAbs : Nat) hq
    have e2 := Int.ediv_le_self (a := V) (Nat.gcd ((P + 1) * s - A).natAbs V.natAbs : Nat) (by omega)
    have : (P + 1) * s ≤ (k + 2) * s := Int.mul_le_mul_of_nonneg_right (by omega) (by omega)
    have : (k + 3) * s = (k + 2) * s + s := by rw [show k + 3 = (k + 2) + 1 by omega, Int.add_mul, Int.one_mul]
    exact ⟨by show (_ : Int) ≤ _; omega, e2⟩
  have pos : ∀ (s A V P : Int), 0 ≤ V → 0 < s * t.2 * (P + 1) - (A * t.2 + V * t.1) → 0 ≤ (P + 1) * s - A := by
    intro s A V P hV h
    have n0 := G.n0
    have m1 := G.m1
    have : 0 ≤ V * t.1 := Int.mul_nonneg hV n0
    refine nonneg_of_mul (c := t.2) (by omega) ?_
    have e : t.2 * ((P + 1) * s - A) = s * t.2 * (P + 1) - A * t.2 := by grind
    omega
  obtain ⟨d0, -⟩ := rD_facts (A := L.A) (V := L.V) (n := t.1) ok.s1 G.m1
  obtain ⟨e0, -⟩ := rD_facts (A := L.B) (V := L.U) (n := t.1) ok.z1 G.m1
  have p1 := pos L.s L.A L.V (L.P t) ok.v0 d0
  have p2 := pos L.z L.B L.U (L.P' t) ok.u0 e0
  unfold next
  by_cases hf : L.first t = true
  · rw [if_pos hf]
    have hV : 0 < L.V := by
      unfold first at hf
      simp only [Bool.and_eq_true, decide_eq_true_eq] at hf
      have := ok.v0; omega
    have := main L.s L.A L.V (L.P t) ok.s1 ok.a0 ok.a1 hV G.p1 p1
    exact ⟨.inl this.1, .inl this.2⟩
  · rw [if_neg hf]
    have hU : 0 < L.U := by
      unfold first at hf
      simp only [Bool.not_eq_true, Bool.and_eq_false_iff, Bool.or_eq_false_iff, decide_eq_false_iff_not] at hf
      have := ok.u0; have := ok.w; omega
    have := main L.z L.B L.U (L.P' t) ok.z1 ok.b0 ok.b1 hU G.q1 p2
    exact ⟨.inr this.1, .inr this.2⟩
def Ls.of (a b x y p q : Int) : Ls := ⟨a, lineA p x, lineV p, b, lineA q y, lineV q⟩
theorem Ls.of_ok {a b x y p q : Int} (a1 : 1 ≤ a) (b1 : 1 ≤ b) (x0 : 0 ≤ x) (x1 : x ≤ a) (y0 : 0 ≤ y) (y1 : y ≤ b) (w : p ≠ 0 ∨ q ≠ 0) : (Ls.of a b x y p q).Ok := by
  refine ⟨a1, b1, ?_, ?_, ?_, ?_, ?_, ?_, ?_⟩ <;> (simp only [of, lineA, lineV]; (try split) <;> (try split) <;> omega)
theorem start {s x v : Int} (hs : 1 ≤ s) (x0 : 0 ≤ x) (x1 : x ≤ s) : rF s (lineA v x) (lineV v) 0 1 = x ∧ rW s (lineA v x) (lineV v) 0 1 = (if (v > 0 ∧ x = s) ∨ (v < 0 ∧ x = 0) then -v else v) ∧ -1 ≤ rP s (lineA v x) (lineV v) 0 1 ∧ rP s (lineA v x) (lineV v) 0 1 ≤ 1 := by
  have main : ∀ A V P : Int, s * P ≤ A → A < s * P + s → rP s A V 0 1 = P := fun A V P h0 h1 => rP_of hs (by decide) (by simpa using h0) (by simp only [Int.mul_one, Int.mul_zero, Int.add_zero, Int.mul_add]; omega)
  have e : ∀ A V : Int, rD s A V 0 1 = s * (rP s A V 0 1 + 1) - A := fun A V => by unfold rD; simp
  unfold rF rW
  rw [e]
  by_cases hv : v < 0
  · have eA : lineA v x = -x := by unfold lineA; rw [if_pos hv]
    have eV : lineV v = -v := by unfold lineV; rw [if_pos hv]
    rw [eA, eV]
    by_cases hx : x = 0
    · rw [main (-x) (-v) 0 (by omega) (by omega)]
      rw [if_pos (by decide), if_pos (by decide), if_pos (by omega)]
      refine ⟨?_, rfl, by omega, by omega⟩
      simp only [Int.mul_one, Int.zero_add]; omega
    · rw [main (-x) (-v) (-1) (by omega) (by omega)]
      rw [if_neg (by decide), if_neg (by decide), if_neg (by omega)]
      refine ⟨?_, by omega, by omega, by omega⟩
      simp only [Int.reduceNeg, Int.reduceAdd, Int.mul_zero]; omega
  · have eA : lineA v x = x := by unfold lineA; rw [if_neg hv]
    have eV : lineV v = v := by unfold lineV; rw [if_neg hv]
    rw [eA, eV]
    by_cases hx : x = s
    · rw [main x v 1 (by omega) (by omega)]
      rw [if_neg (by decide), if_neg (by decide)]
      refine ⟨by omega, ?_, by omega, by omega⟩
      split <;> omega
    · rw [main x v 0 (by omega) (by omega)]
      rw [if_pos (by decide), if_pos (by decide), if_neg (by omega)]
      refine ⟨?_, rfl, by omega, by omega⟩
      simp only [Int.mul_one, Int.zero_add]; omega
theorem fracD_one (x : Int) : fracD x 1 = .tuple [.int x, .int 1] := by
  unfold fracD
  have : Nat.gcd x.natAbs (1 : Int).natAbs = 1 := Nat.gcd_one_right _
  rw [this]
  simp
theorem Ls.at_good (L : Ls) (ok : L.Ok) (p : -1 ≤ L.P (0, 1) ∧ L.P (0, 1) ≤ 1) (q : -1 ≤ L.P' (0, 1) ∧ L.P' (0, 1) ≤ 1) : ∀ k : Nat, L.Good k (L.at k)
  | 0 => ⟨show (1 : Int) ≤ 1 by decide, show Nat.gcd (0 : Int).natAbs (1 : Int).natAbs = 1 by decide, show (0 : Int) ≤ 0 by decide, p.1, show L.P (0, 1) ≤ ((0 : Nat) : Int) + 1 by have := p.2; omega, q.1, show L.P' (0, 1) ≤ ((0 : Nat) : Int) + 1 by have := q.2; omega⟩
  | k + 1 => by
    obtain ⟨_, _, T⟩ := L.turn ok (L.at_good ok p q k)
    have := T.good
    exact this
theorem Ls.rows_succ (L : Ls) (k : Nat) : L.rows (k + 1) = L.rows k ++ [L.row (L.at (k + 1))] := by
  unfold rows
  rw [List.range_succ, List.map_append]
  rfl
def D__law_hits : PSpec := fun ds Q _ => ∃ a b x y p q k, ds = [.tuple [.int a, .int b], .tuple [.int x, .int y, .int p, .int q], .int k] ∧ 1 ≤ a ∧ 1 ≤ b ∧ 0 ≤ x ∧ x ≤ a ∧ 0 ≤ y ∧ y ≤ b ∧ (p ≠ 0 ∨ q ≠ 0) ∧ sz 200 a ∧ sz 200 b ∧ sz 200 p ∧ sz 200 q ∧ 0 ≤ k ∧ k ≤ 4000 ∧ Q (.va (.list ((Ls.of a b x y p q).rows k.toNat)))
theorem len__law_hits : ∀ ds Q E, D__law_hits ds Q E → ds.length = 3 := by
  rintro _ Q E ⟨a, b, x, y, p, q, k, rfl, _⟩
  rfl
theorem sel_run {L : Ls} {t : Int × Int} {k w0 w1 : Int} {a0 a1 a2 a3 a4 a5 a6 a7 a8 a9 a10 a14 a15 a16 a17 a18 : S} {D : DE} (ok : L.Ok) (G : L.Good k t) (T : L.Turn k t w0 w1) (z1 : sz 500 (L.D t)) (z2 : sz 500 (L.D' t)) (z3 : sz 500 (t.2 * L.V)) (z4 : sz 500 (t.2 * L.U))
    (hN : D.nx [a0, a1, a2, a3, a4, a5, a6, a7, a8, a9, a10, .va (L.O t), .va (L.O' t), .va (.tuple [.int w0, .int w1]), a14, a15, a16, a17, a18]) :
    mIf (mTOr (mT (mOp2 opIsN2 (mVar 11) (mC .none))) (mTAnd (mT (mOp2 opNotN2 (mVar 12) (mC .none))) (mT (mOp2 opLt (mOp2 opMul (mOp2 opIx (mVar 12) (mC (.int 0))) (mOp2 opIx (mVar 11) (mC (.int 1)))) (mOp2 opMul (mOp2 opIx (mVar 11) (mC (.int 0))) (mOp2 opIx (mVar 12) (mC (.int 1)))))))) (mAsg (mVar 12) (mgName 13)) (mNext)
      D [a0, a1, a2, a3, a4, a5, a6, a7, a8, a9, a10, .va (L.O t), .va (L.O' t), .va (L.O t), a14, a15, a16, a17, a18] := by
  have hw := T.wait
  obtain ⟨d0, -⟩ := rD_facts (A := L.A) (V := L.V) (n := t.1) ok.s1 G.m1
  obtain ⟨e0, -⟩ := rD_facts (A := L.B) (V := L.U) (n := t.1) ok.z1 G.m1
  have v0 := ok.v0
  have u0 := ok.u0
  have w := ok.w
  unfold Ls.wait Ls.first at hw
  by_cases hV : L.V = 0
  · have o1 : L.O t = .none := by unfold Ls.O; rw [if_pos hV]
    have o2 : L.O' t = .tuple [.int w0, .int w1] := by
      unfold Ls.O'
      rw [if_neg (by omega)]
      rw [if_neg (by simp [hV])] at hw
      exact hw
    rw [o1, o2] at hN ⊢
    simp only [DL.mSeq, DL.mAsg, DL.mAsgR, DL.mAsgM, DL.mrs, DL.ssets, DL.mIf, DL.mRet, DL.mRetN, DL.mrOf, DL.mrLst, DL.mrCat, DL.mrCall, DL.mDrop, DL.mNext, DL.mBreak, DL.mCont, DL.mC, DL.mVar, DL.mOp2, DL.mOp1, DL.mAnd, DL.mOr, DL.mNot, DL.mIfE, DL.mChain, DL.mNil, DL.mCons, DL.mTup, DL.mLst, DL.mCallB, DL.mDict0, DL.mPart, DL.mNoPart, DL.mSl, DL.mCall, DL.mCallK, DL.mCallW, DL.mLenScr, DL.mWell, DL.mT, DL.mTAnd, DL.mTOr, DL.mTNot, DL.mTYes, DL.mgName, DL.mgNil_n, DL.mgCons_c, DL.mgTup_t, DL.mgTup_l, DL.miSeq, DL.miRng1, DL.miRng2, DL.mRaise, DL.mApp, DL.mFor, DL.mLc, DL.mrLc, DL.sget, DL.sset, DL.slots0, DL.slotsW, DL.endP, DL.endW, DL.endL, DL.wF, DL.fz_va, DL.fz_own, List.length_cons, List.length_nil, List.map_cons, List.map_nil, List.replicate_succ, List.replicate_zero, Nat.reduceAdd, Nat.reduceSub, Nat.reduceLeDiff, List.cons_append, List.nil_append, Nat.zero_add, Nat.add_zero, Nat.sub_self, Option.some.injEq, PyData.bool.injEq, PyData.int.injEq, PyData.tuple.injEq, PyData.list.injEq, PyData.str.injEq, List.cons.injEq, DL.S.va.injEq, DL.S.own.injEq, DL.S.well.injEq, DL.S.scr.injEq, and_true, true_and, exists_eq_left', exists_eq_left, exists_eq_right, exists_eq_right', exists_and_left, exists_and_right, exists_eq, exists_eq', reduceCtorEq, false_and, and_false, exists_const, if_true, if_false, Bool.false_eq_true, reduceIte, Bool.not_true, Bool.not_false, DL.bIsi, List.any_cons, List.any_nil, Bool.or_false, Bool.or_true, Bool.false_or, Bool.true_or, DL.isK, DL.opAdd_i, DL.opSub_i, DL.opLt_i, DL.opLe_i, DL.opGt_i, DL.opGe_i, DL.opEq_int, DL.opNe_int, DL.opEq_b, DL.opNe_b, DL.opEq_nn, beq_self_eq_true, DL.opEq_str, DL.opNe_str, DL.opIsN_n, DL.opNotN_n, DL.isN, DL.opIsB_b, DL.opNotB_b, DL.opNeg_i, DL.bAbs_i, DL.bMax_i, DL.bMin_i, DL.bInt_i, DL.bGcd_i, DL.bLen_l, DL.bLen_t, DL.opAdd_t, DL.opAdd_l, DL.opIx_l, DL.opIx_t, DL.opSl_t, DL.opSl_l, DL.opRev_t, DL.opRev_l, DL.bList_l, DL.bList_t, DL.bTup_l, DL.bTup_t, DL.atI0, DL.atI1, DL.atI2, DL.atI3, DL.items_t, DL.items_l]
    exact hN
  · obtain ⟨u1, c1, r1, r2, r3, -, r5, r6, r7⟩ := red (D := L.D t) d0 G.m1 (show 0 < L.V by omega)
    have o1 : L.O t = .tuple [.int u1, .int c1] := by unfold Ls.O; rw [if_neg hV]; exact r1
    by_cases hU : L.U = 0
    · have o2 : L.O' t = .none := by unfold Ls.O'; rw [if_pos hU]
      rw [if_pos (by simp [hV, hU]), r1] at hw
      cases hw
      rw [o1, o2] at hN ⊢
      simp only [DL.mSeq, DL.mAsg, DL.mAsgR, DL.mAsgM, DL.mrs, DL.ssets, DL.mIf, DL.mRet, DL.mRetN, DL.mrOf, DL.mrLst, DL.mrCat, DL.mrCall, DL.mDrop, DL.mNext, DL.mBreak, DL.mCont, DL.mC, DL.mVar, DL.mOp2, DL.mOp1, DL.mAnd, DL.mOr, DL.mNot, DL.mIfE, DL.mChain, DL.mNil, DL.mCons, DL.mTup, DL.mLst, DL.mCallB, DL.mDict0, DL.mPart, DL.mNoPart, DL.mSl, DL.mCall, DL.mCallK, DL.mCallW, DL.mLenScr, DL.mWell, DL.mT, DL.mTAnd, DL.mTOr, DL.mTNot, DL.mTYes, DL.mgName, DL.mgNil_n, DL.mgCons_c, DL.mgTup_t, DL.mgTup_l, DL.miSeq, DL.miRng1, DL.miRng2, DL.mRaise, DL.mApp, DL.mFor, DL.mLc, DL.mrLc, DL.sget, DL.sset, DL.slots0, DL.slotsW, DL.endP, DL.endW, DL.endL, DL.wF, DL.fz_va, DL.fz_own, List.length_cons, List.length_nil, List.map_cons, List.map_nil, List.replicate_succ, List.replicate_zero, Nat.reduceAdd, Nat.reduceSub, Nat.reduceLeDiff, List.cons_append, List.nil_append, Nat.zero_add, Nat.add_zero, Nat.sub_self, Option.some.injEq, PyData.bool.injEq, PyData.int.injEq, PyData.tuple.injEq, PyData.list.injEq, PyData.str.injEq, List.cons.injEq, DL.S.va.injEq, DL.S.own.injEq, DL.S.well.injEq, DL.S.scr.injEq, and_true, true_and, exists_eq_left', exists_eq_left, exists_eq_right, exists_eq_right', exists_and_left, exists_and_right, exists_eq, exists_eq', reduceCtorEq, false_and, and_false, exists_const, if_true, if_false, Bool.false_eq_true, reduceIte, Bool.not_true, Bool.not_false, DL.bIsi, List.any_cons, List.any_nil, Bool.or_false, Bool.or_true, Bool.false_or, Bool.true_or, DL.isK, DL.opAdd_i, DL.opSub_i, DL.opLt_i, DL.opLe_i, DL.opGt_i, DL.opGe_i, DL.opEq_int, DL.opNe_int, DL.opEq_b, DL.opNe_b, DL.opEq_nn, beq_self_eq_true, DL.opEq_str, DL.opNe_str, DL.opIsN_n, DL.opNotN_n, DL.isN, DL.opIsB_b, DL.opNotB_b, DL.opNeg_i, DL.bAbs_i, DL.bMax_i, DL.bMin_i, DL.bInt_i, DL.bGcd_i, DL.bLen_l, DL.bLen_t, DL.opAdd_t, DL.opAdd_l, DL.opIx_l, DL.opIx_t, DL.opSl_t, DL.opSl_l, DL.opRev_t, DL.opRev_l, DL.bList_l, DL.bList_t, DL.bTup_l, DL.bTup_t, DL.atI0, DL.atI1, DL.atI2, DL.atI3, DL.items_t, DL.items_l]
      exact hN
    · obtain ⟨u2, c2, q1, q2, q3, -, q5, q6, q7⟩ := red (D := L.D' t) e0 G.m1 (show 0 < L.U by omega)
      have o2 : L.O' t = .tuple [.int u2, .int c2] := by unfold Ls.O'; rw [if_neg hU]; exact q1
      rw [o1, o2] at hN ⊢
      have zu1 : sz 500 u1 := sz_le z1 (by omega)
      have zu2 : sz 500 u2 := sz_le z2 (by omega)
      have zc1 : sz 500 c1 := sz_le z3 (by omega)
      have zc2 : sz 500 c2 := sz_le z4 (by omega)
      simp only [DL.mSeq, DL.mAsg, DL.mAsgR, DL.mAsgM, DL.mrs, DL.ssets, DL.mIf, DL.mRet, DL.mRetN, DL.mrOf, DL.mrLst, DL.mrCat, DL.mrCall, DL.mDrop, DL.mNext, DL.mBreak, DL.mCont, DL.mC, DL.mVar, DL.mOp2, DL.mOp1, DL.mAnd, DL.mOr, DL.mNot, DL.mIfE, DL.mChain, DL.mNil, DL.mCons, DL.mTup, DL.mLst, DL.mCallB, DL.mDict0, DL.mPart, DL.mNoPart, DL.mSl, DL.mCall, DL.mCallK, DL.mCallW, DL.mLenScr, DL.mWell, DL.mT, DL.mTAnd, DL.mTOr, DL.mTNot, DL.mTYes, DL.mgName, DL.mgNil_n, DL.mgCons_c, DL.mgTup_t, DL.mgTup_l, DL.miSeq, DL.miRng1, DL.miRng2, DL.mRaise, DL.mApp, DL.mFor, DL.mLc, DL.mrLc, DL.sget, DL.sset, DL.slots0, DL.slotsW, DL.endP, DL.endW, DL.endL, DL.wF, DL.fz_va, DL.fz_own, List.length_cons, List.length_nil, List.map_cons, List.map_nil, List.replicate_succ, List.replicate_zero, Nat.reduceAdd, Nat.reduceSub, Nat.reduceLeDiff, List.cons_append, List.nil_append, Nat.zero_add, Nat.add_zero, Nat.sub_self, Option.some.injEq, PyData.bool.injEq, PyData.int.injEq, PyData.tuple.injEq, PyData.list.injEq, PyData.str.injEq, List.cons.injEq, DL.S.va.injEq, DL.S.own.injEq, DL.S.well.injEq, DL.S.scr.injEq, and_true, true_and, exists_eq_left', exists_eq_left, exists_eq_right, exists_eq_right', exists_and_left, exists_and_right, exists_eq, exists_eq', reduceCtorEq, false_and, and_false, exists_const, if_true, if_false, Bool.false_eq_true, reduceIte, Bool.not_true, Bool.not_false, DL.bIsi, List.any_cons, List.any_nil, Bool.or_false, Bool.or_true, Bool.false_or, Bool.true_or, DL.isK, DL.opAdd_i, DL.opSub_i, DL.opLt_i, DL.opLe_i, DL.opGt_i, DL.opGe_i, DL.opEq_int, DL.opNe_int, DL.opEq_b, DL.opNe_b, DL.opEq_nn, beq_self_eq_true, DL.opEq_str, DL.opNe_str, DL.opIsN_n, DL.opNotN_n, DL.isN, DL.opIsB_b, DL.opNotB_b, DL.opNeg_i, DL.bAbs_i, DL.bMax_i, DL.bMin_i, DL.bInt_i, DL.bGcd_i, DL.bLen_l, DL.bLen_t, DL.opAdd_t, DL.opAdd_l, DL.opIx_l, DL.opIx_t, DL.opSl_t, DL.opSl_l, DL.opRev_t, DL.opRev_l, DL.bList_l, DL.bList_t, DL.bTup_l, DL.bTup_t, DL.atI0, DL.atI1, DL.atI2, DL.atI3, DL.items_t, DL.items_l]
      refine ⟨_, opMul_ok zu2 zc1 (by decide), _, opMul_ok zu1 zc2 (by decide), _, rfl, _, rfl, ?_⟩
      have m1 := G.m1
      have C : 0 < t.2 * L.V * L.U := Int.mul_pos (Int.mul_pos (by omega) (by omega)) (by omega)
      have Ee : 0 < c1 * c2 := Int.mul_pos (by omega) (by omega)
      have cr : u2 * c1 < u1 * c2 ↔ L.D' t * L.V < L.D t * L.U := by
        refine cross_lt C Ee ?_ ?_
        · generalize L.D' t = D' at *
          grind
        · generalize L.D t = D at *
          grind
      by_cases hc : u2 * c1 < u1 * c2
      · rw [if_pos (decide_eq_true hc)]
        rw [cr] at hc
        rw [if_neg (by simp [hV, hU]; omega), q1] at hw
        cases hw
        exact hN
      · rw [if_neg (by simpa using hc)]
        rw [cr] at hc
        rw [if_pos (by simp [hV, hU]; omega), r1] at hw
        cases hw
        exact hN
theorem frac_sz {F m R b : Int} (hm : 1 ≤ m) (hF : 0 ≤ F) (h : fracD F m = .tuple [.int R, .int b]) : 1 ≤ b ∧ b ≤ m ∧ 0 ≤ R ∧ R ≤ F := by
  obtain ⟨-, h2, -⟩ := low_facts (t := F) (m := m) hm
  unfold fracD at h
  simp only [PyData.tuple.injEq, List.cons.injEq, PyData.int.injEq, and_true] at h
  rw [h.2] at h2
  refine ⟨h2, ?_, ?_, ?_⟩
  · rw [← h.2]; exact Int.ediv_le_self _ (by omega)
  · rw [← h.1]; exact Int.ediv_nonneg hF (by omega)
  · rw [← h.1]; exact Int.ediv_le_self _ hF
theorem str_nil (x : Str) : x ++ ("" : Str) = x := by
  obtain ⟨⟨l⟩⟩ := x
  have e : (Str.ofString "").cps = #[] := by decide +kernel
  show Str.mk _ = _
  rw [e]
  simp
theorem opAdd_s {x y : Str} (h : x.length + y.length ≤ 100000) : opAdd (.str x) (.str y) = some (.str (x ++ y)) := if_pos h
theorem places_run {R c R' c' Wv Wv' w0 w1 : Int} {s0 s1 s2 s3 s4 s5 s6 s8 s9 s10 s11 s12 s14 x16 x17 x18 : S} {W : WD} {D : DE} (hc : 1 ≤ c) (hc' : 1 ≤ c') (hw : 1 ≤ w1) (zR : sz 400 R) (zR' : sz 400 R') (zW : sz 400 Wv) (zW' : sz 400 Wv') (zc : sz 400 c) (zc' : sz 400 c') (zw0 : sz 400 w0) (zw1 : sz 400 w1)
    (hN : ∀ x16 x17 x18, D.nx [s0, s1, s2, s3, s4, s5, s6, .va (.list [.tuple [.int R, .int c], .tuple [.int R', .int c'], .int Wv, .int Wv']), s8, s9, s10, s11, s12, .va (.tuple [.int w0, .int w1]), s14, .own [fracD (R * w1 + Wv * w0 * c) (c * w1), fracD (R' * w1 + Wv' * w0 * c') (c' * w1)], x16, x17, x18]) :
    (mFor (miSeq (mTup (mCons (mTup (mCons (mOp2 opIx (mVar 7) (mC (.int 0))) (mCons (mOp2 opIx (mVar 7) (mC (.int 2))) (mNil)))) (mCons (mTup (mCons (mOp2 opIx (mVar 7) (mC (.int 1))) (mCons (mOp2 opIx (mVar 7) (mC (.int 3))) (mNil)))) (mNil))))) (mgTup 2 (mgCons (mgName 16) (mgCons (mgName 17) (mgNil)))) (mSeq (mAsg (mOp2 opAdd (mOp2 opMul (mOp2 opIx (mVar 16) (mC (.int 0))) (mOp2 opIx (mVar 13) (mC (.int 1)))) (mOp2 opMul (mOp2 opMul (mVar 17) (mOp2 opIx (mVar 13) (mC (.int 0)))) (mOp2 opIx (mVar 16) (mC (.int 1))))) (mgName 18))
  (mApp 15 (mCall D__law_low W (mCons (mVar 18) (mCons (mOp2 opMul (mOp2 opIx (mVar 16) (mC (.int 1))) (mOp2 opIx (mVar 13) (mC (.int 1)))) (mNil))))))) D [s0, s1, s2, s3, s4, s5, s6, .va (.list [.tuple [.int R, .int c], .tuple [.int R', .int c'], .int Wv, .int Wv']), s8, s9, s10, s11, s12, .va (.tuple [.int w0, .int w1]), s14, .own [], x16, x17, x18] := by
  have one : ∀ (R c Wv : Int) (ps : List PyData) (s7 x16 x17 x18 : S) (D : DE), ps.length < 100000 → 1 ≤ c → sz 400 R → sz 400 c → sz 400 Wv → (∀ x18, D.nx [s0, s1, s2, s3, s4, s5, s6, s7, s8, s9, s10, s11, s12, .va (.tuple [.int w0, .int w1]), s14, .own (ps ++ [fracD (R * w1 + Wv * w0 * c) (c * w1)]), .va (.tuple [.int R, .int c]), .va (.int Wv), x18]) →
      (mSeq (mAsg (mOp2 opAdd (mOp2 opMul (mOp2 opIx (mVar 16) (mC (.int 0))) (mOp2 opIx (mVar 13) (mC (.int 1)))) (mOp2 opMul (mOp2 opMul (mVar 17) (mOp2 opIx (mVar 13) (mC (.int 0)))) (mOp2 opIx (mVar 16) (mC (.int 1))))) (mgName 18))
  (mApp 15 (mCall D__law_low W (mCons (mVar 18) (mCons (mOp2 opMul (mOp2 opIx (mVar 16) (mC (.int 1))) (mOp2 opIx (mVar 13) (mC (.int 1)))) (mNil)))))) D [s0, s1, s2, s3, s4, s5, s6, s7, s8, s9, s10, s11, s12, .va (.tuple [.int w0, .int w1]), s14, .own ps, .va (.tuple [.int R, .int c]), .va (.int Wv), x18] := by
    intro R c Wv ps s7 x16 x17 x18 D hp hc zR zc zW hN
    have k1 : 0 < c * w1 := Int.mul_pos (by omega) (by omega)
    refine seq_run (fun s => s = [s0, s1, s2, s3, s4, s5, s6, s7, s8, s9, s10, s11, s12, .va (.tuple [.int w0, .int w1]), s14, .own ps, .va (.tuple [.int R, .int c]), .va (.int Wv), .va (.int (R * w1 + Wv * w0 * c))]) (fun N h => ?_) ?_
    · simp only [DL.mSeq, DL.mAsg, DL.mAsgR, DL.mAsgM, DL.mrs, DL.ssets, DL.mIf, DL.mRet, DL.mRetN, DL.mrOf, DL.mrLst, DL.mrCat, DL.mrCall, DL.mDrop, DL.mNext, DL.mBreak, DL.mCont, DL.mC, DL.mVar, DL.mOp2, DL.mOp1, DL.mAnd, DL.mOr, DL.mNot, DL.mIfE, DL.mChain, DL.mNil, DL.mCons, DL.mTup, DL.mLst, DL.mCallB, DL.mDict0, DL.mPart, DL.mNoPart, DL.mSl, DL.mCall, DL.mCallK, DL.mCallW, DL.mLenScr, DL.mWell, DL.mT, DL.mTAnd, DL.mTOr, DL.mTNot, DL.mTYes, DL.mgName, DL.mgNil_n, DL.mgCons_c, DL.mgTup_t, DL.mgTup_l, DL.miSeq, DL.miRng1, DL.miRng2, DL.mRaise, DL.mApp, DL.mFor, DL.mLc, DL.mrLc, DL.sget, DL.sset, DL.slots0, DL.slotsW, DL.endP, DL.endW, DL.endL, DL.wF, DL.fz_va, DL.fz_own, List.length_cons, List.length_nil, List.map_cons, List.map_nil, List.replicate_succ, List.replicate_zero, Nat.reduceAdd, Nat.reduceSub, Nat.reduceLeDiff, List.cons_append, List.nil_append, Nat.zero_add, Nat.add_zero, Nat.sub_self, Option.some.injEq, PyData.bool.injEq, PyData.int.injEq, PyData.tuple.injEq, PyData.list.injEq, PyData.str.injEq, List.cons.injEq, DL.S.va.injEq, DL.S.own.injEq, DL.S.well.injEq, DL.S.scr.injEq, and_true, true_and, exists_eq_left', exists_eq_left, exists_eq_right, exists_eq_right', exists_and_left, exists_and_right, exists_eq, exists_eq', reduceCtorEq, false_and, and_false, exists_const, if_true, if_false, Bool.false_eq_true, reduceIte, Bool.not_true, Bool.not_false, DL.bIsi, List.any_cons, List.any_nil, Bool.or_false, Bool.or_true, Bool.false_or, Bool.true_or, DL.isK, DL.opAdd_i, DL.opSub_i, DL.opLt_i, DL.opLe_i, DL.opGt_i, DL.opGe_i, DL.opEq_int, DL.opNe_int, DL.opEq_b, DL.opNe_b, DL.opEq_nn, beq_self_eq_true, DL.opEq_str, DL.opNe_str, DL.opIsN_n, DL.opNotN_n, DL.isN, DL.opIsB_b, DL.opNotB_b, DL.opNeg_i, DL.bAbs_i, DL.bMax_i, DL.bMin_i, DL.bInt_i, DL.bGcd_i, DL.bLen_l, DL.bLen_t, DL.opAdd_t, DL.opAdd_l, DL.opIx_l, DL.opIx_t, DL.opSl_t, DL.opSl_l, DL.opRev_t, DL.opRev_l, DL.bList_l, DL.bList_t, DL.bTup_l, DL.bTup_t, DL.atI0, DL.atI1, DL.atI2, DL.atI3, DL.items_t, DL.items_l]
      exact ⟨_, opMul_ok zR zw1 (by decide), _, opMul_ok zW zw0 (by decide), _, opMul_ok (sz_mul zW zw0) zc (by decide), _, rfl, h _ rfl⟩
    · rintro _ rfl
      simp only [DL.mSeq, DL.mAsg, DL.mAsgR, DL.mAsgM, DL.mrs, DL.ssets, DL.mIf, DL.mRet, DL.mRetN, DL.mrOf, DL.mrLst, DL.mrCat, DL.mrCall, DL.mDrop, DL.mNext, DL.mBreak, DL.mCont, DL.mC, DL.mVar, DL.mOp2, DL.mOp1, DL.mAnd, DL.mOr, DL.mNot, DL.mIfE, DL.mChain, DL.mNil, DL.mCons, DL.mTup, DL.mLst, DL.mCallB, DL.mDict0, DL.mPart, DL.mNoPart, DL.mSl, DL.mCall, DL.mCallK, DL.mCallW, DL.mLenScr, DL.mWell, DL.mT, DL.mTAnd, DL.mTOr, DL.mTNot, DL.mTYes, DL.mgName, DL.mgNil_n, DL.mgCons_c, DL.mgTup_t, DL.mgTup_l, DL.miSeq, DL.miRng1, DL.miRng2, DL.mRaise, DL.mApp, DL.mFor, DL.mLc, DL.mrLc, DL.sget, DL.sset, DL.slots0, DL.slotsW, DL.endP, DL.endW, DL.endL, DL.wF, DL.fz_va, DL.fz_own, List.length_cons, List.length_nil, List.map_cons, List.map_nil, List.replicate_succ, List.replicate_zero, Nat.reduceAdd, Nat.reduceSub, Nat.reduceLeDiff, List.cons_append, List.nil_append, Nat.zero_add, Nat.add_zero, Nat.sub_self, Option.some.injEq, PyData.bool.injEq, PyData.int.injEq, PyData.tuple.injEq, PyData.list.injEq, PyData.str.injEq, List.cons.injEq, DL.S.va.injEq, DL.S.own.injEq, DL.S.well.injEq, DL.S.scr.injEq, and_true, true_and, exists_eq_left', exists_eq_left, exists_eq_right, exists_eq_right', exists_and_left, exists_and_right, exists_eq, exists_eq', reduceCtorEq, false_and, and_false, exists_const, if_true, if_false, Bool.false_eq_true, reduceIte, Bool.not_true, Bool.not_false, DL.bIsi, List.any_cons, List.any_nil, Bool.or_false, Bool.or_true, Bool.false_or, Bool.true_or, DL.isK, DL.opAdd_i, DL.opSub_i, DL.opLt_i, DL.opLe_i, DL.opGt_i, DL.opGe_i, DL.opEq_int, DL.opNe_int, DL.opEq_b, DL.opNe_b, DL.opEq_nn, beq_self_eq_true, DL.opEq_str, DL.opNe_str, DL.opIsN_n, DL.opNotN_n, DL.isN, DL.opIsB_b, DL.opNotB_b, DL.opNeg_i, DL.bAbs_i, DL.bMax_i, DL.bMin_i, DL.bInt_i, DL.bGcd_i, DL.bLen_l, DL.bLen_t, DL.opAdd_t, DL.opAdd_l, DL.opIx_l, DL.opIx_t, DL.opSl_t, DL.opSl_l, DL.opRev_t, DL.opRev_l, DL.bList_l, DL.bList_t, DL.bTup_l, DL.bTup_t, DL.atI0, DL.atI1, DL.atI2, DL.atI3, DL.items_t, DL.items_l]
      exact ⟨_, opMul_ok zc zw1 (by decide), _, _, rfl, by omega, sz_mono (sz_mul zc zw1) (by decide), _, rfl, hp, hN _⟩
  simp only [DL.mSeq, DL.mAsg, DL.mAsgR, DL.mAsgM, DL.mrs, DL.ssets, DL.mIf, DL.mRet, DL.mRetN, DL.mrOf, DL.mrLst, DL.mrCat, DL.mrCall, DL.mDrop, DL.mNext, DL.mBreak, DL.mCont, DL.mC, DL.mVar, DL.mOp2, DL.mOp1, DL.mAnd, DL.mOr, DL.mNot, DL.mIfE, DL.mChain, DL.mNil, DL.mCons, DL.mTup, DL.mLst, DL.mCallB, DL.mDict0, DL.mPart, DL.mNoPart, DL.mSl, DL.mCall, DL.mCallK, DL.mCallW, DL.mLenScr, DL.mWell, DL.mT, DL.mTAnd, DL.mTOr, DL.mTNot, DL.mTYes, DL.mgName, DL.mgNil_n, DL.mgCons_c, DL.mgTup_t, DL.mgTup_l, DL.miSeq, DL.miRng1, DL.miRng2, DL.mRaise, DL.mApp, DL.mFor, DL.mLc, DL.mrLc, DL.sget, DL.sset, DL.slots0, DL.slotsW, DL.endP, DL.endW, DL.endL, DL.wF, DL.fz_va, DL.fz_own, List.length_cons, List.length_nil, List.map_cons, List.map_nil, List.replicate_succ, List.replicate_zero, Nat.reduceAdd, Nat.reduceSub, Nat.reduceLeDiff, List.cons_append, List.nil_append, Nat.zero_add, Nat.add_zero, Nat.sub_self, Option.some.injEq, PyData.bool.injEq, PyData.int.injEq, PyData.tuple.injEq, PyData.list.injEq, PyData.str.injEq, List.cons.injEq, DL.S.va.injEq, DL.S.own.injEq, DL.S.well.injEq, DL.S.scr.injEq, and_true, true_and, exists_eq_left', exists_eq_left, exists_eq_right, exists_eq_right', exists_and_left, exists_and_right, exists_eq, exists_eq', reduceCtorEq, false_and, and_false, exists_const, if_true, if_false, Bool.false_eq_true, reduceIte, Bool.not_true, Bool.not_false, DL.bIsi, List.any_cons, List.any_nil, Bool.or_false, Bool.or_true, Bool.false_or, Bool.true_or, DL.isK, DL.opAdd_i, DL.opSub_i, DL.opLt_i, DL.opLe_i, DL.opGt_i, DL.opGe_i, DL.opEq_int, DL.opNe_int, DL.opEq_b, DL.opNe_b, DL.opEq_nn, beq_self_eq_true, DL.opEq_str, DL.opNe_str, DL.opIsN_n, DL.opNotN_n, DL.isN, DL.opIsB_b, DL.opNotB_b, DL.opNeg_i, DL.bAbs_i, DL.bMax_i, DL.bMin_i, DL.bInt_i, DL.bGcd_i, DL.bLen_l, DL.bLen_t, DL.opAdd_t, DL.opAdd_l, DL.opIx_l, DL.opIx_t, DL.opSl_t, DL.opSl_l, DL.opRev_t, DL.opRev_l, DL.bList_l, DL.bList_t, DL.bTup_l, DL.bTup_t, DL.atI0, DL.atI1, DL.atI2, DL.atI3, DL.items_t, DL.items_l]
  refine forL_run (fun rs s => ∃ x16 x17 x18, (rs = [.tuple [.tuple [.int R, .int c], .int Wv], .tuple [.tuple [.int R', .int c'], .int Wv']] ∧ s = [s0, s1, s2, s3, s4, s5, s6, .va (.list [.tuple [.int R, .int c], .tuple [.int R', .int c'], .int Wv, .int Wv']), s8, s9, s10, s11, s12, .va (.tuple [.int w0, .int w1]), s14, .own [], x16, x17, x18]) ∨ (rs = [.tuple [.tuple [.int R', .int c'], .int Wv']] ∧ s = [s0, s1, s2, s3, s4, s5, s6, .va (.list [.tuple [.int R, .int c], .tuple [.int R', .int c'], .int Wv, .int Wv']), s8, s9, s10, s11, s12, .va (.tuple [.int w0, .int w1]), s14, .own [fracD (R * w1 + Wv * w0 * c) (c * w1)], x16, x17, x18]) ∨ (rs = [] ∧ s = [s0, s1, s2, s3, s4, s5, s6, .va (.list [.tuple [.int R, .int c], .tuple [.int R', .int c'], .int Wv, .int Wv']), s8, s9, s10, s11, s12, .va (.tuple [.int w0, .int w1]), s14, .own [fracD (R * w1 + Wv * w0 * c) (c * w1), fracD (R' * w1 + Wv' * w0 * c') (c' * w1)], x16, x17, x18])) ?_ ?_ _ _ ⟨_, _, _, .inl ⟨rfl, rfl⟩⟩
  · rintro d r s N ⟨x16, x17, x18, h⟩ hN'
    rcases h with ⟨h, rfl⟩ | ⟨h, rfl⟩ | ⟨h, _⟩
    · cases h
      simp only [mgTup_t, mgCons_c, mgName, mgNil_n, sset, items_t, exists_eq_left', Option.some.injEq]
      exact ⟨rfl, one R c Wv [] _ x16 x17 x18 _ (by decide) hc zR zc zW fun x18 => hN' _ ⟨_, _, _, .inr (.inl ⟨rfl, rfl⟩)⟩⟩
    · cases h
      simp only [mgTup_t, mgCons_c, mgName, mgNil_n, sset, items_t, exists_eq_left', Option.some.injEq]
      exact ⟨rfl, one R' c' Wv' [_] _ x16 x17 x18 _ (by simp) hc' zR' zc' zW' fun x18 => hN' _ ⟨_, _, _, .inr (.inr ⟨rfl, rfl⟩)⟩⟩
    · cases h
  · rintro s ⟨x16, x17, x18, h⟩
    rcases h with ⟨h, _⟩ | ⟨h, _⟩ | ⟨_, rfl⟩
    · cases h
    · cases h
    · exact hN _ _ _
theorem turn_run {L : Ls} {t : Int × Int} {k w0 w1 : Int} {sh K s3 s4 s5 s6 s10 s11 s12 s13 s14 s15 s16 s17 s18 : S} {fs : List PyData} {W : WD} {D : DE}
    (ok : L.Ok) (G : L.Good k t) (T : L.Turn k t w0 w1) (hf : fs.length < 100000) (za : sz 200 L.s) (zb : sz 200 L.z) (zV : sz 200 L.V) (zU : sz 200 L.U) (zn : sz 220 t.1) (zm : sz 200 t.2)
    (hN : ∀ s5 s11 s12 s13 s14 s15 s16 s17 s18, D.nx [.va (.tuple [.int L.s, .int L.z]), sh, K, s3, s4, s5, s6, .va (L.ball (L.next t)), .va (.tuple [.int (L.next t).1, .int (L.next t).2]), .own (fs ++ [L.row (L.next t)]), s10, s11, s12, s13, s14, s15, s16, s17, s18]) :
    (mSeq (mAsg (mCall D__law_step W (mCons (mVar 0) (mCons (mVar 7) (mNil)))) (mgTup 2 (mgCons (mgName 11) (mgCons (mgName 12) (mgNil)))))
  (mSeq (mAsg (mVar 11) (mgName 13))
  (mSeq (mIf (mTOr (mT (mOp2 opIsN2 (mVar 11) (mC .none))) (mTAnd (mT (mOp2 opNotN2 (mVar 12) (mC .none))) (mT (mOp2 opLt (mOp2 opMul (mOp2 opIx (mVar 12) (mC (.int 0))) (mOp2 opIx (mVar 11) (mC (.int 1)))) (mOp2 opMul (mOp2 opIx (mVar 11) (mC (.int 0))) (mOp2 opIx (mVar 12) (mC (.int 1)))))))) (mAsg (mVar 12) (mgName 13)) (mNext))
  (mSeq (mAsg (mCall D__law_low W (mCons (mOp2 opAdd (mOp2 opMul (mOp2 opIx (mVar 8) (mC (.int 0))) (mOp2 opIx (mVar 13) (mC (.int 1)))) (mOp2 opMul (mOp2 opIx (mVar 13) (mC (.int 0))) (mOp2 opIx (mVar 8) (mC (.int 1))))) (mCons (mOp2 opMul (mOp2 opIx (mVar 8) (mC (.int 1))) (mOp2 opIx (mVar 13) (mC (.int 1)))) (mNil)))) (mgName 8))
  (mSeq (mAsg (mC (.str "")) (mgName 14))
  (mSeq (mIf (mT (mOp2 opEq (mVar 11) (mVar 13))) (mAsg (mIfE (mT (mOp2 opGt (mOp2 opIx (mVar 7) (mC (.int 2))) (mC (.int 0)))) (mC (.str "E")) (mC (.str "W"))) (mgName 14)) (mNext))
  (mSeq (mIf (mT (mOp2 opEq (mVar 12) (mVar 13))) (mAsg (mOp2 opAdd (mVar 14) (mIfE (mT (mOp2 opGt (mOp2 opIx (mVar 7) (mC (.int 3))) (mC (.int 0)))) (mC (.str "N")) (mC (.str "S")))) (mgName 14)) (mNext))
  (mSeq (mAsgR 15 (mrLst (mNil)))
  (mSeq (mFor (miSeq (mTup (mCons (mTup (mCons (mOp2 opIx (mVar 7) (mC (.int 0))) (mCons (mOp2 opIx (mVar 7) (mC (.int 2))) (mNil)))) (mCons (mTup (mCons (mOp2 opIx (mVar 7) (mC (.int 1))) (mCons (mOp2 opIx (mVar 7) (mC (.int 3))) (mNil)))) (mNil))))) (mgTup 2 (mgCons (mgName 16) (mgCons (mgName 17) (mgNil)))) (mSeq (mAsg (mOp2 opAdd (mOp2 opMul (mOp2 opIx (mVar 16) (mC (.int 0))) (mOp2 opIx (mVar 13) (mC (.int 1)))) (mOp2 opMul (mOp2 opMul (mVar 17) (mOp2 opIx (mVar 13) (mC (.int 0)))) (mOp2 opIx (mVar 16) (mC (.int 1))))) (mgName 18))
  (mApp 15 (mCall D__law_low W (mCons (mVar 18) (mCons (mOp2 opMul (mOp2 opIx (mVar 16) (mC (.int 1))) (mOp2 opIx (mVar 13) (mC (.int 1)))) (mNil)))))))
  (mSeq (mApp 9 (mTup (mCons (mVar 8) (mCons (mVar 14) (mCons (mTup (mCons (mOp2 opIx (mVar 15) (mC (.int 0))) (mCons (mOp2 opIx (mVar 15) (mC (.int 1))) (mNil)))) (mNil))))))
  (mSeq (mAsg (mIfE (mT (mOp2 opEq (mVar 11) (mVar 13))) (mOp1 opNeg (mOp2 opIx (mVar 7) (mC (.int 2)))) (mOp2 opIx (mVar 7) (mC (.int 2)))) (mgName 5))
  (mAsg (mLst (mCons (mOp2 opIx (mVar 15) (mC (.int 0))) (mCons (mOp2 opIx (mVar 15) (mC (.int 1))) (mCons (mVar 5) (mCons (mIfE (mT (mOp2 opEq (mVar 12) (mVar 13))) (mOp1 opNeg (mOp2 opIx (mVar 7) (mC (.int 3)))) (mOp2 opIx (mVar 7) (mC (.int 3)))) (mNil)))))) (mgName 7)))))))))))))
      D [.va (.tuple [.int L.s, .int L.z]), sh, K, s3, s4, s5, s6, .va (L.ball t), .va (.tuple [.int t.1, .int t.2]), .own fs, s10, s11, s12, s13, s14, s15, s16, s17, s18] := by
  obtain ⟨d0, d1⟩ := rD_facts (A := L.A) (V := L.V) (n := t.1) ok.s1 G.m1
  obtain ⟨e0, e1⟩ := rD_facts (A := L.B) (V := L.U) (n := t.1) ok.z1 G.m1
  have m1 := G.m1
  have f0 : 0 ≤ L.F t ∧ L.F t ≤ L.s * t.2 := by unfold Ls.F rF; split <;> omega
  have f0' : 0 ≤ L.F' t ∧ L.F' t ≤ L.z * t.2 := by unfold Ls.F' rF; split <;> omega
  have zsm : sz 400 (L.s * t.2) := sz_mul za zm
  have zzm : sz 400 (L.z * t.2) := sz_mul zb zm
  have zmV : sz 400 (t.2 * L.V) := sz_mul zm zV
  have zmU : sz 400 (t.2 * L.U) := sz_mul zm zU
  have zD : sz 500 (L.D t) := sz_mono (sz_le zsm (show (rD L.s L.A L.V t.1 t.2).natAbs ≤ _ by omega)) (by decide)
  have zD' : sz 500 (L.D' t) := sz_mono (sz_le zzm (show (rD L.z L.B L.U t.1 t.2).natAbs ≤ _ by omega)) (by decide)
  have q0 := T.q0
  have q1 := T.q1
  have zw0 : sz 400 w0 := by
    rcases T.z0 with h | h
    · exact sz_le zsm (by omega)
    · exact sz_le zzm (by omega)
  have zw1 : sz 400 w1 := by
    rcases T.z1 with h | h
    · exact sz_le zmV (by omega)
    · exact sz_le zmU (by omega)
  obtain ⟨R, c, ef⟩ : ∃ R c, fracD (L.F t) t.2 = .tuple [.int R, .int c] := ⟨_, _, rfl⟩
  obtain ⟨R', c', ef'⟩ : ∃ R c, fracD (L.F' t) t.2 = .tuple [.int R, .int c] := ⟨_, _, rfl⟩
  obtain ⟨c1, c2, r0, r1⟩ := frac_sz m1 f0.1 ef
  obtain ⟨c1', c2', r0', r1'⟩ := frac_sz m1 f0'.1 ef'
  have zc : sz 200 c := sz_le zm (by omega)
  have zc' : sz 200 c' := sz_le zm (by omega)
  have zR : sz 400 R := sz_le zsm (by omega)
  have zR' : sz 400 R' := sz_le zzm (by omega)
  have zW : sz 200 (L.W t) := by unfold Ls.W rW; split <;> first | exact zV | exact sz_neg zV
  have zW' : sz 200 (L.W' t) := by unfold Ls.W' rW; split <;> first | exact zU | exact sz_neg zU
  have eb : L.ball t = .list [.tuple [.int R, .int c], .tuple [.int R', .int c'], .int (L.W t), .int (L.W' t)] := by unfold Ls.ball; rw [ef, ef']
  have o1 : stepD L.s R c (L.W t) = L.O t := stepD_is ok.s1 m1 ok.v0 ef
  have o2 : stepD L.z R' c' (L.W' t) = L.O' t := stepD_is ok.z1 m1 ok.u0 ef'
  have u : ∀ {z : Int}, sz 200 z → sz 1000 z := fun h => sz_mono h (by decide)
  have p1 := T.pl1 R c ef
  have p2 := T.pl2 R' c' ef'
  refine seq_run (fun s => s = [.va (.tuple [.int L.s, .int L.z]), sh, K, s3, s4, s5, s6, .va (L.ball t), .va (.tuple [.int t.1, .int t.2]), .own fs, s10, .va (L.O t), .va (L.O' t), s13, s14, s15, s16, s17, s18]) (fun N h => ?_) ?_
  · rw [eb]
    simp only [DL.mSeq, DL.mAsg, DL.mAsgR, DL.mAsgM, DL.mrs, DL.ssets, DL.mIf, DL.mRet, DL.mRetN, DL.mrOf, DL.mrLst, DL.mrCat, DL.mrCall, DL.mDrop, DL.mNext, DL.mBreak, DL.mCont, DL.mC, DL.mVar, DL.mOp2, DL.mOp1, DL.mAnd, DL.mOr, DL.mNot, DL.mIfE, DL.mChain, DL.mNil, DL.mCons, DL.mTup, DL.mLst, DL.mCallB, DL.mDict0, DL.mPart, DL.mNoPart, DL.mSl, DL.mCall, DL.mCallK, DL.mCallW, DL.mLenScr, DL.mWell, DL.mT, DL.mTAnd, DL.mTOr, DL.mTNot, DL.mTYes, DL.mgName, DL.mgNil_n, DL.mgCons_c, DL.mgTup_t, DL.mgTup_l, DL.miSeq, DL.miRng1, DL.miRng2, DL.mRaise, DL.mApp, DL.mFor, DL.mLc, DL.mrLc, DL.sget, DL.sset, DL.slots0, DL.slotsW, DL.endP, DL.endW, DL.endL, DL.wF, DL.fz_va, DL.fz_own, List.length_cons, List.length_nil, List.map_cons, List.map_nil, List.replicate_succ, List.replicate_zero, Nat.reduceAdd, Nat.reduceSub, Nat.reduceLeDiff, List.cons_append, List.nil_append, Nat.zero_add, Nat.add_zero, Nat.sub_self, Option.some.injEq, PyData.bool.injEq, PyData.int.injEq, PyData.tuple.injEq, PyData.list.injEq, PyData.str.injEq, List.cons.injEq, DL.S.va.injEq, DL.S.own.injEq, DL.S.well.injEq, DL.S.scr.injEq, and_true, true_and, exists_eq_left', exists_eq_left, exists_eq_right, exists_eq_right', exists_and_left, exists_and_right, exists_eq, exists_eq', reduceCtorEq, false_and, and_false, exists_const, if_true, if_false, Bool.false_eq_true, reduceIte, Bool.not_true, Bool.not_false, DL.bIsi, List.any_cons, List.any_nil, Bool.or_false, Bool.or_true, Bool.false_or, Bool.true_or, DL.isK, DL.opAdd_i, DL.opSub_i, DL.opLt_i, DL.opLe_i, DL.opGt_i, DL.opGe_i, DL.opEq_int, DL.opNe_int, DL.opEq_b, DL.opNe_b, DL.opEq_nn, beq_self_eq_true, DL.opEq_str, DL.opNe_str, DL.opIsN_n, DL.opNotN_n, DL.isN, DL.opIsB_b, DL.opNotB_b, DL.opNeg_i, DL.bAbs_i, DL.bMax_i, DL.bMin_i, DL.bInt_i, DL.bGcd_i, DL.bLen_l, DL.bLen_t, DL.opAdd_t, DL.opAdd_l, DL.opIx_l, DL.opIx_t, DL.opSl_t, DL.opSl_l, DL.opRev_t, DL.opRev_l, DL.bList_l, DL.bList_t, DL.bTup_l, DL.bTup_t, DL.atI0, DL.atI1, DL.atI2, DL.atI3, DL.items_t, DL.items_l]
    refine ⟨_, _, R, c, R', c', _, _, rfl, c1, c1', u za, u zb, u zc, u zc', u zW, u zW', _, rfl, ?_⟩
    rw [o1, o2, ← eb]
    simp only [DL.mSeq, DL.mAsg, DL.mAsgR, DL.mAsgM, DL.mrs, DL.ssets, DL.mIf, DL.mRet, DL.mRetN, DL.mrOf, DL.mrLst, DL.mrCat, DL.mrCall, DL.mDrop, DL.mNext, DL.mBreak, DL.mCont, DL.mC, DL.mVar, DL.mOp2, DL.mOp1, DL.mAnd, DL.mOr, DL.mNot, DL.mIfE, DL.mChain, DL.mNil, DL.mCons, DL.mTup, DL.mLst, DL.mCallB, DL.mDict0, DL.mPart, DL.mNoPart, DL.mSl, DL.mCall, DL.mCallK, DL.mCallW, DL.mLenScr, DL.mWell, DL.mT, DL.mTAnd, DL.mTOr, DL.mTNot, DL.mTYes, DL.mgName, DL.mgNil_n, DL.mgCons_c, DL.mgTup_t, DL.mgTup_l, DL.miSeq, DL.miRng1, DL.miRng2, DL.mRaise, DL.mApp, DL.mFor, DL.mLc, DL.mrLc, DL.sget, DL.sset, DL.slots0, DL.slotsW, DL.endP, DL.endW, DL.endL, DL.wF, DL.fz_va, DL.fz_own, List.length_cons, List.length_nil, List.map_cons, List.map_nil, List.replicate_succ, List.replicate_zero, Nat.reduceAdd, Nat.reduceSub, Nat.reduceLeDiff, List.cons_append, List.nil_append, Nat.zero_add, Nat.add_zero, Nat.sub_self, Option.some.injEq, PyData.bool.injEq, PyData.int.injEq, PyData.tuple.injEq, PyData.list.injEq, PyData.str.injEq, List.cons.injEq, DL.S.va.injEq, DL.S.own.injEq, DL.S.well.injEq, DL.S.scr.injEq, and_true, true_and, exists_eq_left', exists_eq_left, exists_eq_right, exists_eq_right', exists_and_left, exists_and_right, exists_eq, exists_eq', reduceCtorEq, false_and, and_false, exists_const, if_true, if_false, Bool.false_eq_true, reduceIte, Bool.not_true, Bool.not_false, DL.bIsi, List.any_cons, List.any_nil, Bool.or_false, Bool.or_true, Bool.false_or, Bool.true_or, DL.isK, DL.opAdd_i, DL.opSub_i, DL.opLt_i, DL.opLe_i, DL.opGt_i, DL.opGe_i, DL.opEq_int, DL.opNe_int, DL.opEq_b, DL.opNe_b, DL.opEq_nn, beq_self_eq_true, DL.opEq_str, DL.opNe_str, DL.opIsN_n, DL.opNotN_n, DL.isN, DL.opIsB_b, DL.opNotB_b, DL.opNeg_i, DL.bAbs_i, DL.bMax_i, DL.bMin_i, DL.bInt_i, DL.bGcd_i, DL.bLen_l, DL.bLen_t, DL.opAdd_t, DL.opAdd_l, DL.opIx_l, DL.opIx_t, DL.opSl_t, DL.opSl_l, DL.opRev_t, DL.opRev_l, DL.bList_l, DL.bList_t, DL.bTup_l, DL.bTup_t, DL.atI0, DL.atI1, DL.atI2, DL.atI3, DL.items_t, DL.items_l]
    exact h _ rfl
  rintro _ rfl
  refine seq_run (fun s => s = [.va (.tuple [.int L.s, .int L.z]), sh, K, s3, s4, s5, s6, .va (L.ball t), .va (.tuple [.int t.1, .int t.2]), .own fs, s10, .va (L.O t), .va (L.O' t), .va (L.O t), s14, s15, s16, s17, s18]) (fun N h => ?_) ?_
  · simp only [DL.mSeq, DL.mAsg, DL.mAsgR, DL.mAsgM, DL.mrs, DL.ssets, DL.mIf, DL.mRet, DL.mRetN, DL.mrOf, DL.mrLst, DL.mrCat, DL.mrCall, DL.mDrop, DL.mNext, DL.mBreak, DL.mCont, DL.mC, DL.mVar, DL.mOp2, DL.mOp1, DL.mAnd, DL.mOr, DL.mNot, DL.mIfE, DL.mChain, DL.mNil, DL.mCons, DL.mTup, DL.mLst, DL.mCallB, DL.mDict0, DL.mPart, DL.mNoPart, DL.mSl, DL.mCall, DL.mCallK, DL.mCallW, DL.mLenScr, DL.mWell, DL.mT, DL.mTAnd, DL.mTOr, DL.mTNot, DL.mTYes, DL.mgName, DL.mgNil_n, DL.mgCons_c, DL.mgTup_t, DL.mgTup_l, DL.miSeq, DL.miRng1, DL.miRng2, DL.mRaise, DL.mApp, DL.mFor, DL.mLc, DL.mrLc, DL.sget, DL.sset, DL.slots0, DL.slotsW, DL.endP, DL.endW, DL.endL, DL.wF, DL.fz_va, DL.fz_own, List.length_cons, List.length_nil, List.map_cons, List.map_nil, List.replicate_succ, List.replicate_zero, Nat.reduceAdd, Nat.reduceSub, Nat.reduceLeDiff, List.cons_append, List.nil_append, Nat.zero_add, Nat.add_zero, Nat.sub_self, Option.some.injEq, PyData.bool.injEq, PyData.int.injEq, PyData.tuple.injEq, PyData.list.injEq, PyData.str.injEq, List.cons.injEq, DL.S.va.injEq, DL.S.own.injEq, DL.S.well.injEq, DL.S.scr.injEq, and_true, true_and, exists_eq_left', exists_eq_left, exists_eq_right, exists_eq_right', exists_and_left, exists_and_right, exists_eq, exists_eq', reduceCtorEq, false_and, and_false, exists_const, if_true, if_false, Bool.false_eq_true, reduceIte, Bool.not_true, Bool.not_false, DL.bIsi, List.any_cons, List.any_nil, Bool.or_false, Bool.or_true, Bool.false_or, Bool.true_or, DL.isK, DL.opAdd_i, DL.opSub_i, DL.opLt_i, DL.opLe_i, DL.opGt_i, DL.opGe_i, DL.opEq_int, DL.opNe_int, DL.opEq_b, DL.opNe_b, DL.opEq_nn, beq_self_eq_true, DL.opEq_str, DL.opNe_str, DL.opIsN_n, DL.opNotN_n, DL.isN, DL.opIsB_b, DL.opNotB_b, DL.opNeg_i, DL.bAbs_i, DL.bMax_i, DL.bMin_i, DL.bInt_i, DL.bGcd_i, DL.bLen_l, DL.bLen_t, DL.opAdd_t, DL.opAdd_l, DL.opIx_l, DL.opIx_t, DL.opSl_t, DL.opSl_l, DL.opRev_t, DL.opRev_l, DL.bList_l, DL.bList_t, DL.bTup_l, DL.bTup_t, DL.atI0, DL.atI1, DL.atI2, DL.atI3, DL.items_t, DL.items_l]
    exact h _ rfl
  rintro _ rfl
  refine seq_run (fun s => s = [.va (.tuple [.int L.s, .int L.z]), sh, K, s3, s4, s5, s6, .va (L.ball t), .va (.tuple [.int t.1, .int t.2]), .own fs, s10, .va (L.O t), .va (L.O' t), .va (.tuple [.int w0, .int w1]), s14, s15, s16, s17, s18]) (fun N h => ?_) ?_
  · exact sel_run ok G T zD zD' (sz_mono zmV (by decide)) (sz_mono zmU (by decide)) (h _ rfl)
  rintro _ rfl
  refine seq_run (fun s => s = [.va (.tuple [.int L.s, .int L.z]), sh, K, s3, s4, s5, s6, .va (L.ball t), .va (.tuple [.int (L.next t).1, .int (L.next t).2]), .own fs, s10, .va (L.O t), .va (L.O' t), .va (.tuple [.int w0, .int w1]), s14, s15, s16, s17, s18]) (fun N h => ?_) ?_
  · simp only [DL.mSeq, DL.mAsg, DL.mAsgR, DL.mAsgM, DL.mrs, DL.ssets, DL.mIf, DL.mRet, DL.mRetN, DL.mrOf, DL.mrLst, DL.mrCat, DL.mrCall, DL.mDrop, DL.mNext, DL.mBreak, DL.mCont, DL.mC, DL.mVar, DL.mOp2, DL.mOp1, DL.mAnd, DL.mOr, DL.mNot, DL.mIfE, DL.mChain, DL.mNil, DL.mCons, DL.mTup, DL.mLst, DL.mCallB, DL.mDict0, DL.mPart, DL.mNoPart, DL.mSl, DL.mCall, DL.mCallK, DL.mCallW, DL.mLenScr, DL.mWell, DL.mT, DL.mTAnd, DL.mTOr, DL.mTNot, DL.mTYes, DL.mgName, DL.mgNil_n, DL.mgCons_c, DL.mgTup_t, DL.mgTup_l, DL.miSeq, DL.miRng1, DL.miRng2, DL.mRaise, DL.mApp, DL.mFor, DL.mLc, DL.mrLc, DL.sget, DL.sset, DL.slots0, DL.slotsW, DL.endP, DL.endW, DL.endL, DL.wF, DL.fz_va, DL.fz_own, List.length_cons, List.length_nil, List.map_cons, List.map_nil, List.replicate_succ, List.replicate_zero, Nat.reduceAdd, Nat.reduceSub, Nat.reduceLeDiff, List.cons_append, List.nil_append, Nat.zero_add, Nat.add_zero, Nat.sub_self, Option.some.injEq, PyData.bool.injEq, PyData.int.injEq, PyData.tuple.injEq, PyData.list.injEq, PyData.str.injEq, List.cons.injEq, DL.S.va.injEq, DL.S.own.injEq, DL.S.well.injEq, DL.S.scr.injEq, and_true, true_and, exists_eq_left', exists_eq_left, exists_eq_right, exists_eq_right', exists_and_left, exists_and_right, exists_eq, exists_eq', reduceCtorEq, false_and, and_false, exists_const, if_true, if_false, Bool.false_eq_true, reduceIte, Bool.not_true, Bool.not_false, DL.bIsi, List.any_cons, List.any_nil, Bool.or_false, Bool.or_true, Bool.false_or, Bool.true_or, DL.isK, DL.opAdd_i, DL.opSub_i, DL.opLt_i, DL.opLe_i, DL.opGt_i, DL.opGe_i, DL.opEq_int, DL.opNe_int, DL.opEq_b, DL.opNe_b, DL.opEq_nn, beq_self_eq_true, DL.opEq_str, DL.opNe_str, DL.opIsN_n, DL.opNotN_n, DL.isN, DL.opIsB_b, DL.opNotB_b, DL.opNeg_i, DL.bAbs_i, DL.bMax_i, DL.bMin_i, DL.bInt_i, DL.bGcd_i, DL.bLen_l, DL.bLen_t, DL.opAdd_t, DL.opAdd_l, DL.opIx_l, DL.opIx_t, DL.opSl_t, DL.opSl_l, DL.opRev_t, DL.opRev_l, DL.bList_l, DL.bList_t, DL.bTup_l, DL.bTup_t, DL.atI0, DL.atI1, DL.atI2, DL.atI3, DL.items_t, DL.items_l]
    refine ⟨_, opMul_ok zn zw1 (by decide), _, opMul_ok zw0 zm (by decide), _, rfl, _, opMul_ok zm zw1 (by decide), ?_⟩
    have mw : 0 < t.2 * w1 := Int.mul_pos (by omega) (by omega)
    refine ⟨_, _, rfl, by omega, sz_mono (sz_mul zm zw1) (by decide), _, rfl, ?_⟩
    rw [T.now]
    exact h _ rfl
  rintro _ rfl
  refine seq_run (fun s => s = [.va (.tuple [.int L.s, .int L.z]), sh, K, s3, s4, s5, s6, .va (L.ball t), .va (.tuple [.int (L.next t).1, .int (L.next t).2]), .own fs, s10, .va (L.O t), .va (L.O' t), .va (.tuple [.int w0, .int w1]), .va (.str ""), s15, s16, s17, s18]) (fun N h => ?_) ?_
  · simp only [DL.mSeq, DL.mAsg, DL.mAsgR, DL.mAsgM, DL.mrs, DL.ssets, DL.mIf, DL.mRet, DL.mRetN, DL.mrOf, DL.mrLst, DL.mrCat, DL.mrCall, DL.mDrop, DL.mNext, DL.mBreak, DL.mCont, DL.mC, DL.mVar, DL.mOp2, DL.mOp1, DL.mAnd, DL.mOr, DL.mNot, DL.mIfE, DL.mChain, DL.mNil, DL.mCons, DL.mTup, DL.mLst, DL.mCallB, DL.mDict0, DL.mPart, DL.mNoPart, DL.mSl, DL.mCall, DL.mCallK, DL.mCallW, DL.mLenScr, DL.mWell, DL.mT, DL.mTAnd, DL.mTOr, DL.mTNot, DL.mTYes, DL.mgName, DL.mgNil_n, DL.mgCons_c, DL.mgTup_t, DL.mgTup_l, DL.miSeq, DL.miRng1, DL.miRng2, DL.mRaise, DL.mApp, DL.mFor, DL.mLc, DL.mrLc, DL.sget, DL.sset, DL.slots0, DL.slotsW, DL.endP, DL.endW, DL.endL, DL.wF, DL.fz_va, DL.fz_own, List.length_cons, List.length_nil, List.map_cons, List.map_nil, List.replicate_succ, List.replicate_zero, Nat.reduceAdd, Nat.reduceSub, Nat.reduceLeDiff, List.cons_append, List.nil_append, Nat.zero_add, Nat.add_zero, Nat.sub_self, Option.some.injEq, PyData.bool.injEq, PyData.int.injEq, PyData.tuple.injEq, PyData.list.injEq, PyData.str.injEq, List.cons.injEq, DL.S.va.injEq, DL.S.own.injEq, DL.S.well.injEq, DL.S.scr.injEq, and_true, true_and, exists_eq_left', exists_eq_left, exists_eq_right, exists_eq_right', exists_and_left, exists_and_right, exists_eq, exists_eq', reduceCtorEq, false_and, and_false, exists_const, if_true, if_false, Bool.false_eq_true, reduceIte, Bool.not_true, Bool.not_false, DL.bIsi, List.any_cons, List.any_nil, Bool.or_false, Bool.or_true, Bool.false_or, Bool.true_or, DL.isK, DL.opAdd_i, DL.opSub_i, DL.opLt_i, DL.opLe_i, DL.opGt_i, DL.opGe_i, DL.opEq_int, DL.opNe_int, DL.opEq_b, DL.opNe_b, DL.opEq_nn, beq_self_eq_true, DL.opEq_str, DL.opNe_str, DL.opIsN_n, DL.opNotN_n, DL.isN, DL.opIsB_b, DL.opNotB_b, DL.opNeg_i, DL.bAbs_i, DL.bMax_i, DL.bMin_i, DL.bInt_i, DL.bGcd_i, DL.bLen_l, DL.bLen_t, DL.opAdd_t, DL.opAdd_l, DL.opIx_l, DL.opIx_t, DL.opSl_t, DL.opSl_l, DL.opRev_t, DL.opRev_l, DL.bList_l, DL.bList_t, DL.bTup_l, DL.bTup_t, DL.atI0, DL.atI1, DL.atI2, DL.atI3, DL.items_t, DL.items_l]
    exact h _ rfl
  rintro _ rfl
  refine seq_run (fun s => s = [.va (.tuple [.int L.s, .int L.z]), sh, K, s3, s4, s5, s6, .va (L.ball t), .va (.tuple [.int (L.next t).1, .int (L.next t).2]), .own fs, s10, .va (L.O t), .va (L.O' t), .va (.tuple [.int w0, .int w1]), .va (.str (if L.hit (L.next t) = true then (if L.W t > 0 then ("E" : Str) else ("W" : Str)) else ("" : Str))), s15, s16, s17, s18]) (fun N h => ?_) ?_
  · simp only [DL.mSeq, DL.mAsg, DL.mAsgR, DL.mAsgM, DL.mrs, DL.ssets, DL.mIf, DL.mRet, DL.mRetN, DL.mrOf, DL.mrLst, DL.mrCat, DL.mrCall, DL.mDrop, DL.mNext, DL.mBreak, DL.mCont, DL.mC, DL.mVar, DL.mOp2, DL.mOp1, DL.mAnd, DL.mOr, DL.mNot, DL.mIfE, DL.mChain, DL.mNil, DL.mCons, DL.mTup, DL.mLst, DL.mCallB, DL.mDict0, DL.mPart, DL.mNoPart, DL.mSl, DL.mCall, DL.mCallK, DL.mCallW, DL.mLenScr, DL.mWell, DL.mT, DL.mTAnd, DL.mTOr, DL.mTNot, DL.mTYes, DL.mgName, DL.mgNil_n, DL.mgCons_c, DL.mgTup_t, DL.mgTup_l, DL.miSeq, DL.miRng1, DL.miRng2, DL.mRaise, DL.mApp, DL.mFor, DL.mLc, DL.mrLc, DL.sget, DL.sset, DL.slots0, DL.slotsW, DL.endP, DL.endW, DL.endL, DL.wF, DL.fz_va, DL.fz_own, List.length_cons, List.length_nil, List.map_cons, List.map_nil, List.replicate_succ, List.replicate_zero, Nat.reduceAdd, Nat.reduceSub, Nat.reduceLeDiff, List.cons_append, List.nil_append, Nat.zero_add, Nat.add_zero, Nat.sub_self, Option.some.injEq, PyData.bool.injEq, PyData.int.injEq, PyData.tuple.injEq, PyData.list.injEq, PyData.str.injEq, List.cons.injEq, DL.S.va.injEq, DL.S.own.injEq, DL.S.well.injEq, DL.S.scr.injEq, and_true, true_and, exists_eq_left', exists_eq_left, exists_eq_right, exists_eq_right', exists_and_left, exists_and_right, exists_eq, exists_eq', reduceCtorEq, false_and, and_false, exists_const, if_true, if_false, Bool.false_eq_true, reduceIte, Bool.not_true, Bool.not_false, DL.bIsi, List.any_cons, List.any_nil, Bool.or_false, Bool.or_true, Bool.false_or, Bool.true_or, DL.isK, DL.opAdd_i, DL.opSub_i, DL.opLt_i, DL.opLe_i, DL.opGt_i, DL.opGe_i, DL.opEq_int, DL.opNe_int, DL.opEq_b, DL.opNe_b, DL.opEq_nn, beq_self_eq_true, DL.opEq_str, DL.opNe_str, DL.opIsN_n, DL.opNotN_n, DL.isN, DL.opIsB_b, DL.opNotB_b, DL.opNeg_i, DL.bAbs_i, DL.bMax_i, DL.bMin_i, DL.bInt_i, DL.bGcd_i, DL.bLen_l, DL.bLen_t, DL.opAdd_t, DL.opAdd_l, DL.opIx_l, DL.opIx_t, DL.opSl_t, DL.opSl_l, DL.opRev_t, DL.opRev_l, DL.bList_l, DL.bList_t, DL.bTup_l, DL.bTup_t, DL.atI0, DL.atI1, DL.atI2, DL.atI3, DL.items_t, DL.items_l]
    rw [eb]
    simp only [DL.mSeq, DL.mAsg, DL.mAsgR, DL.mAsgM, DL.mrs, DL.ssets, DL.mIf, DL.mRet, DL.mRetN, DL.mrOf, DL.mrLst, DL.mrCat, DL.mrCall, DL.mDrop, DL.mNext, DL.mBreak, DL.mCont, DL.mC, DL.mVar, DL.mOp2, DL.mOp1, DL.mAnd, DL.mOr, DL.mNot, DL.mIfE, DL.mChain, DL.mNil, DL.mCons, DL.mTup, DL.mLst, DL.mCallB, DL.mDict0, DL.mPart, DL.mNoPart, DL.mSl, DL.mCall, DL.mCallK, DL.mCallW, DL.mLenScr, DL.mWell, DL.mT, DL.mTAnd, DL.mTOr, DL.mTNot, DL.mTYes, DL.mgName, DL.mgNil_n, DL.mgCons_c, DL.mgTup_t, DL.mgTup_l, DL.miSeq, DL.miRng1, DL.miRng2, DL.mRaise, DL.mApp, DL.mFor, DL.mLc, DL.mrLc, DL.sget, DL.sset, DL.slots0, DL.slotsW, DL.endP, DL.endW, DL.endL, DL.wF, DL.fz_va, DL.fz_own, List.length_cons, List.length_nil, List.map_cons, List.map_nil, List.replicate_succ, List.replicate_zero, Nat.reduceAdd, Nat.reduceSub, Nat.reduceLeDiff, List.cons_append, List.nil_append, Nat.zero_add, Nat.add_zero, Nat.sub_self, Option.some.injEq, PyData.bool.injEq, PyData.int.injEq, PyData.tuple.injEq, PyData.list.injEq, PyData.str.injEq, List.cons.injEq, DL.S.va.injEq, DL.S.own.injEq, DL.S.well.injEq, DL.S.scr.injEq, and_true, true_and, exists_eq_left', exists_eq_left, exists_eq_right, exists_eq_right', exists_and_left, exists_and_right, exists_eq, exists_eq', reduceCtorEq, false_and, and_false, exists_const, if_true, if_false, Bool.false_eq_true, reduceIte, Bool.not_true, Bool.not_false, DL.bIsi, List.any_cons, List.any_nil, Bool.or_false, Bool.or_true, Bool.false_or, Bool.true_or, DL.isK, DL.opAdd_i, DL.opSub_i, DL.opLt_i, DL.opLe_i, DL.opGt_i, DL.opGe_i, DL.opEq_int, DL.opNe_int, DL.opEq_b, DL.opNe_b, DL.opEq_nn, beq_self_eq_true, DL.opEq_str, DL.opNe_str, DL.opIsN_n, DL.opNotN_n, DL.isN, DL.opIsB_b, DL.opNotB_b, DL.opNeg_i, DL.bAbs_i, DL.bMax_i, DL.bMin_i, DL.bInt_i, DL.bGcd_i, DL.bLen_l, DL.bLen_t, DL.opAdd_t, DL.opAdd_l, DL.opIx_l, DL.opIx_t, DL.opSl_t, DL.opSl_l, DL.opRev_t, DL.opRev_l, DL.bList_l, DL.bList_t, DL.bTup_l, DL.bTup_t, DL.atI0, DL.atI1, DL.atI2, DL.atI3, DL.items_t, DL.items_l]
    refine ⟨_, T.eq1, _, rfl, ?_⟩
    rw [← eb]
    cases hh : L.hit (L.next t) with
    | true =>
      rw [if_pos rfl]
      have h' := h _ rfl
      rw [hh, if_pos rfl] at h'
      by_cases c : L.W t > 0
      · rw [if_pos (by simpa using c)]
        rw [if_pos c] at h'
        exact h'
      · rw [if_neg (by simpa using c)]
        rw [if_neg c] at h'
        exact h'
    | false =>
      rw [if_neg (by decide)]
      have h' := h _ rfl
      rw [hh, if_neg (by decide)] at h'
      exact h'
  rintro _ rfl
  refine seq_run (fun s => s = [.va (.tuple [.int L.s, .int L.z]), sh, K, s3, s4, s5, s6, .va (L.ball t), .va (.tuple [.int (L.next t).1, .int (L.next t).2]), .own fs, s10, .va (L.O t), .va (L.O' t), .va (.tuple [.int w0, .int w1]), .va (.str (L.word (L.next t))), s15, s16, s17, s18]) (fun N h => ?_) ?_
  · simp only [DL.mSeq, DL.mAsg, DL.mAsgR, DL.mAsgM, DL.mrs, DL.ssets, DL.mIf, DL.mRet, DL.mRetN, DL.mrOf, DL.mrLst, DL.mrCat, DL.mrCall, DL.mDrop, DL.mNext, DL.mBreak, DL.mCont, DL.mC, DL.mVar, DL.mOp2, DL.mOp1, DL.mAnd, DL.mOr, DL.mNot, DL.mIfE, DL.mChain, DL.mNil, DL.mCons, DL.mTup, DL.mLst, DL.mCallB, DL.mDict0, DL.mPart, DL.mNoPart, DL.mSl, DL.mCall, DL.mCallK, DL.mCallW, DL.mLenScr, DL.mWell, DL.mT, DL.mTAnd, DL.mTOr, DL.mTNot, DL.mTYes, DL.mgName, DL.mgNil_n, DL.mgCons_c, DL.mgTup_t, DL.mgTup_l, DL.miSeq, DL.miRng1, DL.miRng2, DL.mRaise, DL.mApp, DL.mFor, DL.mLc, DL.mrLc, DL.sget, DL.sset, DL.slots0, DL.slotsW, DL.endP, DL.endW, DL.endL, DL.wF, DL.fz_va, DL.fz_own, List.length_cons, List.length_nil, List.map_cons, List.map_nil, List.replicate_succ, List.replicate_zero, Nat.reduceAdd, Nat.reduceSub, Nat.reduceLeDiff, List.cons_append, List.nil_append, Nat.zero_add, Nat.add_zero, Nat.sub_self, Option.some.injEq, PyData.bool.injEq, PyData.int.injEq, PyData.tuple.injEq, PyData.list.injEq, PyData.str.injEq, List.cons.injEq, DL.S.va.injEq, DL.S.own.injEq, DL.S.well.injEq, DL.S.scr.injEq, and_true, true_and, exists_eq_left', exists_eq_left, exists_eq_right, exists_eq_right', exists_and_left, exists_and_right, exists_eq, exists_eq', reduceCtorEq, false_and, and_false, exists_const, if_true, if_false, Bool.false_eq_true, reduceIte, Bool.not_true, Bool.not_false, DL.bIsi, List.any_cons, List.any_nil, Bool.or_false, Bool.or_true, Bool.false_or, Bool.true_or, DL.isK, DL.opAdd_i, DL.opSub_i, DL.opLt_i, DL.opLe_i, DL.opGt_i, DL.opGe_i, DL.opEq_int, DL.opNe_int, DL.opEq_b, DL.opNe_b, DL.opEq_nn, beq_self_eq_true, DL.opEq_str, DL.opNe_str, DL.opIsN_n, DL.opNotN_n, DL.isN, DL.opIsB_b, DL.opNotB_b, DL.opNeg_i, DL.bAbs_i, DL.bMax_i, DL.bMin_i, DL.bInt_i, DL.bGcd_i, DL.bLen_l, DL.bLen_t, DL.opAdd_t, DL.opAdd_l, DL.opIx_l, DL.opIx_t, DL.opSl_t, DL.opSl_l, DL.opRev_t, DL.opRev_l, DL.bList_l, DL.bList_t, DL.bTup_l, DL.bTup_t, DL.atI0, DL.atI1, DL.atI2, DL.atI3, DL.items_t, DL.items_l]
    rw [eb]
    simp only [DL.mSeq, DL.mAsg, DL.mAsgR, DL.mAsgM, DL.mrs, DL.ssets, DL.mIf, DL.mRet, DL.mRetN, DL.mrOf, DL.mrLst, DL.mrCat, DL.mrCall, DL.mDrop, DL.mNext, DL.mBreak, DL.mCont, DL.mC, DL.mVar, DL.mOp2, DL.mOp1, DL.mAnd, DL.mOr, DL.mNot, DL.mIfE, DL.mChain, DL.mNil, DL.mCons, DL.mTup, DL.mLst, DL.mCallB, DL.mDict0, DL.mPart, DL.mNoPart, DL.mSl, DL.mCall, DL.mCallK, DL.mCallW, DL.mLenScr, DL.mWell, DL.mT, DL.mTAnd, DL.mTOr, DL.mTNot, DL.mTYes, DL.mgName, DL.mgNil_n, DL.mgCons_c, DL.mgTup_t, DL.mgTup_l, DL.miSeq, DL.miRng1, DL.miRng2, DL.mRaise, DL.mApp, DL.mFor, DL.mLc, DL.mrLc, DL.sget, DL.sset, DL.slots0, DL.slotsW, DL.endP, DL.endW, DL.endL, DL.wF, DL.fz_va, DL.fz_own, List.length_cons, List.length_nil, List.map_cons, List.map_nil, List.replicate_succ, List.replicate_zero, Nat.reduceAdd, Nat.reduceSub, Nat.reduceLeDiff, List.cons_append, List.nil_append, Nat.zero_add, Nat.add_zero, Nat.sub_self, Option.some.injEq, PyData.bool.injEq, PyData.int.injEq, PyData.tuple.injEq, PyData.list.injEq, PyData.str.injEq, List.cons.injEq, DL.S.va.injEq, DL.S.own.injEq, DL.S.well.injEq, DL.S.scr.injEq, and_true, true_and, exists_eq_left', exists_eq_left, exists_eq_right, exists_eq_right', exists_and_left, exists_and_right, exists_eq, exists_eq', reduceCtorEq, false_and, and_false, exists_const, if_true, if_false, Bool.false_eq_true, reduceIte, Bool.not_true, Bool.not_false, DL.bIsi, List.any_cons, List.any_nil, Bool.or_false, Bool.or_true, Bool.false_or, Bool.true_or, DL.isK, DL.opAdd_i, DL.opSub_i, DL.opLt_i, DL.opLe_i, DL.opGt_i, DL.opGe_i, DL.opEq_int, DL.opNe_int, DL.opEq_b, DL.opNe_b, DL.opEq_nn, beq_self_eq_true, DL.opEq_str, DL.opNe_str, DL.opIsN_n, DL.opNotN_n, DL.isN, DL.opIsB_b, DL.opNotB_b, DL.opNeg_i, DL.bAbs_i, DL.bMax_i, DL.bMin_i, DL.bInt_i, DL.bGcd_i, DL.bLen_l, DL.bLen_t, DL.opAdd_t, DL.opAdd_l, DL.opIx_l, DL.opIx_t, DL.opSl_t, DL.opSl_l, DL.opRev_t, DL.opRev_l, DL.bList_l, DL.bList_t, DL.bTup_l, DL.bTup_t, DL.atI0, DL.atI1, DL.atI2, DL.atI3, DL.items_t, DL.items_l]
    refine ⟨_, T.eq2, _, rfl, ?_⟩
    rw [← eb]
    have hw : L.word (L.next t) = (if L.hit (L.next t) = true then (if L.W t > 0 then ("E" : Str) else ("W" : Str)) else ("" : Str)) ++ (if L.hit' (L.next t) = true then (if L.W' t > 0 then ("N" : Str) else ("S" : Str)) else ("" : Str)) := by
      unfold Ls.word
      rw [T.word1, T.word2]
    have hlen : (if L.hit (L.next t) = true then (if L.W t > 0 then ("E" : Str) else ("W" : Str)) else ("" : Str)).length ≤ 1 := by
      split
      · split <;> decide +kernel
      · decide +kernel
    generalize (if L.hit (L.next t) = true then (if L.W t > 0 then ("E" : Str) else ("W" : Str)) else ("" : Str)) = hd at hw hlen ⊢
    have h' := h _ rfl
    rw [hw] at h'
    cases hh : L.hit' (L.next t) with
    | true =>
      rw [if_pos rfl]
      rw [hh, if_pos rfl] at h'
      by_cases c : L.W' t > 0
      · rw [if_pos (by simpa using c)]
        rw [if_pos c] at h'
        refine ⟨_, opAdd_s ?_, h'⟩
        have : (Str.ofString "N").length = 1 := by decide +kernel
        omega
      · rw [if_neg (by simpa using c)]
        rw [if_neg c] at h'
        refine ⟨_, opAdd_s ?_, h'⟩
        have : (Str.ofString "S").length = 1 := by decide +kernel
        omega
    | false =>
      rw [if_neg (by decide)]
      rw [hh, if_neg (by decide), str_nil] at h'
      exact h'
  rintro _ rfl
  refine seq_run (fun s => s = [.va (.tuple [.int L.s, .int L.z]), sh, K, s3, s4, s5, s6, .va (L.ball t), .va (.tuple [.int (L.next t).1, .int (L.next t).2]), .own fs, s10, .va (L.O t), .va (L.O' t), .va (.tuple [.int w0, .int w1]), .va (.str (L.word (L.next t))), .own [], s16, s17, s18]) (fun N h => ?_) ?_
  · simp only [DL.mSeq, DL.mAsg, DL.mAsgR, DL.mAsgM, DL.mrs, DL.ssets, DL.mIf, DL.mRet, DL.mRetN, DL.mrOf, DL.mrLst, DL.mrCat, DL.mrCall, DL.mDrop, DL.mNext, DL.mBreak, DL.mCont, DL.mC, DL.mVar, DL.mOp2, DL.mOp1, DL.mAnd, DL.mOr, DL.mNot, DL.mIfE, DL.mChain, DL.mNil, DL.mCons, DL.mTup, DL.mLst, DL.mCallB, DL.mDict0, DL.mPart, DL.mNoPart, DL.mSl, DL.mCall, DL.mCallK, DL.mCallW, DL.mLenScr, DL.mWell, DL.mT, DL.mTAnd, DL.mTOr, DL.mTNot, DL.mTYes, DL.mgName, DL.mgNil_n, DL.mgCons_c, DL.mgTup_t, DL.mgTup_l, DL.miSeq, DL.miRng1, DL.miRng2, DL.mRaise, DL.mApp, DL.mFor, DL.mLc, DL.mrLc, DL.sget, DL.sset, DL.slots0, DL.slotsW, DL.endP, DL.endW, DL.endL, DL.wF, DL.fz_va, DL.fz_own, List.length_cons, List.length_nil, List.map_cons, List.map_nil, List.replicate_succ, List.replicate_zero, Nat.reduceAdd, Nat.reduceSub, Nat.reduceLeDiff, List.cons_append, List.nil_append, Nat.zero_add, Nat.add_zero, Nat.sub_self, Option.some.injEq, PyData.bool.injEq, PyData.int.injEq, PyData.tuple.injEq, PyData.list.injEq, PyData.str.injEq, List.cons.injEq, DL.S.va.injEq, DL.S.own.injEq, DL.S.well.injEq, DL.S.scr.injEq, and_true, true_and, exists_eq_left', exists_eq_left, exists_eq_right, exists_eq_right', exists_and_left, exists_and_right, exists_eq, exists_eq', reduceCtorEq, false_and, and_false, exists_const, if_true, if_false, Bool.false_eq_true, reduceIte, Bool.not_true, Bool.not_false, DL.bIsi, List.any_cons, List.any_nil, Bool.or_false, Bool.or_true, Bool.false_or, Bool.true_or, DL.isK, DL.opAdd_i, DL.opSub_i, DL.opLt_i, DL.opLe_i, DL.opGt_i, DL.opGe_i, DL.opEq_int, DL.opNe_int, DL.opEq_b, DL.opNe_b, DL.opEq_nn, beq_self_eq_true, DL.opEq_str, DL.opNe_str, DL.opIsN_n, DL.opNotN_n, DL.isN, DL.opIsB_b, DL.opNotB_b, DL.opNeg_i, DL.bAbs_i, DL.bMax_i, DL.bMin_i, DL.bInt_i, DL.bGcd_i, DL.bLen_l, DL.bLen_t, DL.opAdd_t, DL.opAdd_l, DL.opIx_l, DL.opIx_t, DL.opSl_t, DL.opSl_l, DL.opRev_t, DL.opRev_l, DL.bList_l, DL.bList_t, DL.bTup_l, DL.bTup_t, DL.atI0, DL.atI1, DL.atI2, DL.atI3, DL.items_t, DL.items_l]
    exact h _ rfl
  rintro _ rfl
  refine seq_run (fun s => ∃ x16 x17 x18, s = [.va (.tuple [.int L.s, .int L.z]), sh, K, s3, s4, s5, s6, .va (L.ball t), .va (.tuple [.int (L.next t).1, .int (L.next t).2]), .own fs, s10, .va (L.O t), .va (L.O' t), .va (.tuple [.int w0, .int w1]), .va (.str (L.word (L.next t))), .own [fracD (L.F (L.next t)) (L.next t).2, fracD (L.F' (L.next t)) (L.next t).2], x16, x17, x18]) (fun N h => ?_) ?_
  · rw [eb]
    have k1 : 0 < c * w1 := Int.mul_pos (by omega) (by omega)
    have k2 : 0 < c' * w1 := Int.mul_pos (by omega) (by omega)
    refine places_run c1 c1' q1 zR zR' (sz_mono zW (by decide)) (sz_mono zW' (by decide)) (sz_mono zc (by decide)) (sz_mono zc' (by decide)) zw0 zw1 fun x16 x17 x18 => ?_
    rw [p1, p2, ← eb]
    exact h _ ⟨_, _, _, rfl⟩
  rintro _ ⟨x16, x17, x18, rfl⟩
  refine seq_run (fun s => s = [.va (.tuple [.int L.s, .int L.z]), sh, K, s3, s4, s5, s6, .va (L.ball t), .va (.tuple [.int (L.next t).1, .int (L.next t).2]), .own (fs ++ [L.row (L.next t)]), s10, .va (L.O t), .va (L.O' t), .va (.tuple [.int w0, .int w1]), .va (.str (L.word (L.next t))), .va (.list [fracD (L.F (L.next t)) (L.next t).2, fracD (L.F' (L.next t)) (L.next t).2]), x16, x17, x18]) (fun N h => ?_) ?_
  · simp only [DL.mSeq, DL.mAsg, DL.mAsgR, DL.mAsgM, DL.mrs, DL.ssets, DL.mIf, DL.mRet, DL.mRetN, DL.mrOf, DL.mrLst, DL.mrCat, DL.mrCall, DL.mDrop, DL.mNext, DL.mBreak, DL.mCont, DL.mC, DL.mVar, DL.mOp2, DL.mOp1, DL.mAnd, DL.mOr, DL.mNot, DL.mIfE, DL.mChain, DL.mNil, DL.mCons, DL.mTup, DL.mLst, DL.mCallB, DL.mDict0, DL.mPart, DL.mNoPart, DL.mSl, DL.mCall, DL.mCallK, DL.mCallW, DL.mLenScr, DL.mWell, DL.mT, DL.mTAnd, DL.mTOr, DL.mTNot, DL.mTYes, DL.mgName, DL.mgNil_n, DL.mgCons_c, DL.mgTup_t, DL.mgTup_l, DL.miSeq, DL.miRng1, DL.miRng2, DL.mRaise, DL.mApp, DL.mFor, DL.mLc, DL.mrLc, DL.sget, DL.sset, DL.slots0, DL.slotsW, DL.endP, DL.endW, DL.endL, DL.wF, DL.fz_va, DL.fz_own, List.length_cons, List.length_nil, List.map_cons, List.map_nil, List.replicate_succ, List.replicate_zero, Nat.reduceAdd, Nat.reduceSub, Nat.reduceLeDiff, List.cons_append, List.nil_append, Nat.zero_add, Nat.add_zero, Nat.sub_self, Option.some.injEq, PyData.bool.injEq, PyData.int.injEq, PyData.tuple.injEq, PyData.list.injEq, PyData.str.injEq, List.cons.injEq, DL.S.va.injEq, DL.S.own.injEq, DL.S.well.injEq, DL.S.scr.injEq, and_true, true_and, exists_eq_left', exists_eq_left, exists_eq_right, exists_eq_right', exists_and_left, exists_and_right, exists_eq, exists_eq', reduceCtorEq, false_and, and_false, exists_const, if_true, if_false, Bool.false_eq_true, reduceIte, Bool.not_true, Bool.not_false, DL.bIsi, List.any_cons, List.any_nil, Bool.or_false, Bool.or_true, Bool.false_or, Bool.true_or, DL.isK, DL.opAdd_i, DL.opSub_i, DL.opLt_i, DL.opLe_i, DL.opGt_i, DL.opGe_i, DL.opEq_int, DL.opNe_int, DL.opEq_b, DL.opNe_b, DL.opEq_nn, beq_self_eq_true, DL.opEq_str, DL.opNe_str, DL.opIsN_n, DL.opNotN_n, DL.isN, DL.opIsB_b, DL.opNotB_b, DL.opNeg_i, DL.bAbs_i, DL.bMax_i, DL.bMin_i, DL.bInt_i, DL.bGcd_i, DL.bLen_l, DL.bLen_t, DL.opAdd_t, DL.opAdd_l, DL.opIx_l, DL.opIx_t, DL.opSl_t, DL.opSl_l, DL.opRev_t, DL.opRev_l, DL.bList_l, DL.bList_t, DL.bTup_l, DL.bTup_t, DL.atI0, DL.atI1, DL.atI2, DL.atI3, DL.items_t, DL.items_l]
    exact ⟨hf, h _ rfl⟩
  rintro _ rfl
  refine seq_run (fun s => s = [.va (.tuple [.int L.s, .int L.z]), sh, K, s3, s4, .va (.int (L.W (L.next t))), s6, .va (L.ball t), .va (.tuple [.int (L.next t).1, .int (L.next t).2]), .own (fs ++ [L.row (L.next t)]), s10, .va (L.O t), .va (L.O' t), .va (.tuple [.int w0, .int w1]), .va (.str (L.word (L.next t))), .va (.list [fracD (L.F (L.next t)) (L.next t).2, fracD (L.F' (L.next t)) (L.next t).2]), x16, x17, x18]) (fun N h => ?_) ?_
  · simp only [DL.mSeq, DL.mAsg, DL.mAsgR, DL.mAsgM, DL.mrs, DL.ssets, DL.mIf, DL.mRet, DL.mRetN, DL.mrOf, DL.mrLst, DL.mrCat, DL.mrCall, DL.mDrop, DL.mNext, DL.mBreak, DL.mCont, DL.mC, DL.mVar, DL.mOp2, DL.mOp1, DL.mAnd, DL.mOr, DL.mNot, DL.mIfE, DL.mChain, DL.mNil, DL.mCons, DL.mTup, DL.mLst, DL.mCallB, DL.mDict0, DL.mPart, DL.mNoPart, DL.mSl, DL.mCall, DL.mCallK, DL.mCallW, DL.mLenScr, DL.mWell, DL.mT, DL.mTAnd, DL.mTOr, DL.mTNot, DL.mTYes, DL.mgName, DL.mgNil_n, DL.mgCons_c, DL.mgTup_t, DL.mgTup_l, DL.miSeq, DL.miRng1, DL.miRng2, DL.mRaise, DL.mApp, DL.mFor, DL.mLc, DL.mrLc, DL.sget, DL.sset, DL.slots0, DL.slotsW, DL.endP, DL.endW, DL.endL, DL.wF, DL.fz_va, DL.fz_own, List.length_cons, List.length_nil, List.map_cons, List.map_nil, List.replicate_succ, List.replicate_zero, Nat.reduceAdd, Nat.reduceSub, Nat.reduceLeDiff, List.cons_append, List.nil_append, Nat.zero_add, Nat.add_zero, Nat.sub_self, Option.some.injEq, PyData.bool.injEq, PyData.int.injEq, PyData.tuple.injEq, PyData.list.injEq, PyData.str.injEq, List.cons.injEq, DL.S.va.injEq, DL.S.own.injEq, DL.S.well.injEq, DL.S.scr.injEq, and_true, true_and, exists_eq_left', exists_eq_left, exists_eq_right, exists_eq_right', exists_and_left, exists_and_right, exists_eq, exists_eq', reduceCtorEq, false_and, and_false, exists_const, if_true, if_false, Bool.false_eq_true, reduceIte, Bool.not_true, Bool.not_false, DL.bIsi, List.any_cons, List.any_nil, Bool.or_false, Bool.or_true, Bool.false_or, Bool.true_or, DL.isK, DL.opAdd_i, DL.opSub_i, DL.opLt_i, DL.opLe_i, DL.opGt_i, DL.opGe_i, DL.opEq_int, DL.opNe_int, DL.opEq_b, DL.opNe_b, DL.opEq_nn, beq_self_eq_true, DL.opEq_str, DL.opNe_str, DL.opIsN_n, DL.opNotN_n, DL.isN, DL.opIsB_b, DL.opNotB_b, DL.opNeg_i, DL.bAbs_i, DL.bMax_i, DL.bMin_i, DL.bInt_i, DL.bGcd_i, DL.bLen_l, DL.bLen_t, DL.opAdd_t, DL.opAdd_l, DL.opIx_l, DL.opIx_t, DL.opSl_t, DL.opSl_l, DL.opRev_t, DL.opRev_l, DL.bList_l, DL.bList_t, DL.bTup_l, DL.bTup_t, DL.atI0, DL.atI1, DL.atI2, DL.atI3, DL.items_t, DL.items_l]
    rw [eb]
    simp only [DL.mSeq, DL.mAsg, DL.mAsgR, DL.mAsgM, DL.mrs, DL.ssets, DL.mIf, DL.mRet, DL.mRetN, DL.mrOf, DL.mrLst, DL.mrCat, DL.mrCall, DL.mDrop, DL.mNext, DL.mBreak, DL.mCont, DL.mC, DL.mVar, DL.mOp2, DL.mOp1, DL.mAnd, DL.mOr, DL.mNot, DL.mIfE, DL.mChain, DL.mNil, DL.mCons, DL.mTup, DL.mLst, DL.mCallB, DL.mDict0, DL.mPart, DL.mNoPart, DL.mSl, DL.mCall, DL.mCallK, DL.mCallW, DL.mLenScr, DL.mWell, DL.mT, DL.mTAnd, DL.mTOr, DL.mTNot, DL.mTYes, DL.mgName, DL.mgNil_n, DL.mgCons_c, DL.mgTup_t, DL.mgTup_l, DL.miSeq, DL.miRng1, DL.miRng2, DL.mRaise, DL.mApp, DL.mFor, DL.mLc, DL.mrLc, DL.sget, DL.sset, DL.slots0, DL.slotsW, DL.endP, DL.endW, DL.endL, DL.wF, DL.fz_va, DL.fz_own, List.length_cons, List.length_nil, List.map_cons, List.map_nil, List.replicate_succ, List.replicate_zero, Nat.reduceAdd, Nat.reduceSub, Nat.reduceLeDiff, List.cons_append, List.nil_append, Nat.zero_add, Nat.add_zero, Nat.sub_self, Option.some.injEq, PyData.bool.injEq, PyData.int.injEq, PyData.tuple.injEq, PyData.list.injEq, PyData.str.injEq, List.cons.injEq, DL.S.va.injEq, DL.S.own.injEq, DL.S.well.injEq, DL.S.scr.injEq, and_true, true_and, exists_eq_left', exists_eq_left, exists_eq_right, exists_eq_right', exists_and_left, exists_and_right, exists_eq, exists_eq', reduceCtorEq, false_and, and_false, exists_const, if_true, if_false, Bool.false_eq_true, reduceIte, Bool.not_true, Bool.not_false, DL.bIsi, List.any_cons, List.any_nil, Bool.or_false, Bool.or_true, Bool.false_or, Bool.true_or, DL.isK, DL.opAdd_i, DL.opSub_i, DL.opLt_i, DL.opLe_i, DL.opGt_i, DL.opGe_i, DL.opEq_int, DL.opNe_int, DL.opEq_b, DL.opNe_b, DL.opEq_nn, beq_self_eq_true, DL.opEq_str, DL.opNe_str, DL.opIsN_n, DL.opNotN_n, DL.isN, DL.opIsB_b, DL.opNotB_b, DL.opNeg_i, DL.bAbs_i, DL.bMax_i, DL.bMin_i, DL.bInt_i, DL.bGcd_i, DL.bLen_l, DL.bLen_t, DL.opAdd_t, DL.opAdd_l, DL.opIx_l, DL.opIx_t, DL.opSl_t, DL.opSl_l, DL.opRev_t, DL.opRev_l, DL.bList_l, DL.bList_t, DL.bTup_l, DL.bTup_t, DL.atI0, DL.atI1, DL.atI2, DL.atI3, DL.items_t, DL.items_l]
    refine ⟨_, T.eq1, _, rfl, ?_⟩
    rw [← eb]
    have h' := h _ rfl
    rw [T.way1] at h'
    cases hh : L.hit (L.next t) with
    | true =>
      rw [if_pos rfl]
      rw [hh, if_pos rfl] at h'
      exact h'
    | false =>
      rw [if_neg (by decide)]
      rw [hh, if_neg (by decide)] at h'
      exact h'
  rintro _ rfl
  simp only [DL.mSeq, DL.mAsg, DL.mAsgR, DL.mAsgM, DL.mrs, DL.ssets, DL.mIf, DL.mRet, DL.mRetN, DL.mrOf, DL.mrLst, DL.mrCat, DL.mrCall, DL.mDrop, DL.mNext, DL.mBreak, DL.mCont, DL.mC, DL.mVar, DL.mOp2, DL.mOp1, DL.mAnd, DL.mOr, DL.mNot, DL.mIfE, DL.mChain, DL.mNil, DL.mCons, DL.mTup, DL.mLst, DL.mCallB, DL.mDict0, DL.mPart, DL.mNoPart, DL.mSl, DL.mCall, DL.mCallK, DL.mCallW, DL.mLenScr, DL.mWell, DL.mT, DL.mTAnd, DL.mTOr, DL.mTNot, DL.mTYes, DL.mgName, DL.mgNil_n, DL.mgCons_c, DL.mgTup_t, DL.mgTup_l, DL.miSeq, DL.miRng1, DL.miRng2, DL.mRaise, DL.mApp, DL.mFor, DL.mLc, DL.mrLc, DL.sget, DL.sset, DL.slots0, DL.slotsW, DL.endP, DL.endW, DL.endL, DL.wF, DL.fz_va, DL.fz_own, List.length_cons, List.length_nil, List.map_cons, List.map_nil, List.replicate_succ, List.replicate_zero, Nat.reduceAdd, Nat.reduceSub, Nat.reduceLeDiff, List.cons_append, List.nil_append, Nat.zero_add, Nat.add_zero, Nat.sub_self, Option.some.injEq, PyData.bool.injEq, PyData.int.injEq, PyData.tuple.injEq, PyData.list.injEq, PyData.str.injEq, List.cons.injEq, DL.S.va.injEq, DL.S.own.injEq, DL.S.well.injEq, DL.S.scr.injEq, and_true, true_and, exists_eq_left', exists_eq_left, exists_eq_right, exists_eq_right', exists_and_left, exists_and_right, exists_eq, exists_eq', reduceCtorEq, false_and, and_false, exists_const, if_true, if_false, Bool.false_eq_true, reduceIte, Bool.not_true, Bool.not_false, DL.bIsi, List.any_cons, List.any_nil, Bool.or_false, Bool.or_true, Bool.false_or, Bool.true_or, DL.isK, DL.opAdd_i, DL.opSub_i, DL.opLt_i, DL.opLe_i, DL.opGt_i, DL.opGe_i, DL.opEq_int, DL.opNe_int, DL.opEq_b, DL.opNe_b, DL.opEq_nn, beq_self_eq_true, DL.opEq_str, DL.opNe_str, DL.opIsN_n, DL.opNotN_n, DL.isN, DL.opIsB_b, DL.opNotB_b, DL.opNeg_i, DL.bAbs_i, DL.bMax_i, DL.bMin_i, DL.bInt_i, DL.bGcd_i, DL.bLen_l, DL.bLen_t, DL.opAdd_t, DL.opAdd_l, DL.opIx_l, DL.opIx_t, DL.opSl_t, DL.opSl_l, DL.opRev_t, DL.opRev_l, DL.bList_l, DL.bList_t, DL.bTup_l, DL.bTup_t, DL.atI0, DL.atI1, DL.atI2, DL.atI3, DL.items_t, DL.items_l]
  rw [eb]
  simp only [DL.mSeq, DL.mAsg, DL.mAsgR, DL.mAsgM, DL.mrs, DL.ssets, DL.mIf, DL.mRet, DL.mRetN, DL.mrOf, DL.mrLst, DL.mrCat, DL.mrCall, DL.mDrop, DL.mNext, DL.mBreak, DL.mCont, DL.mC, DL.mVar, DL.mOp2, DL.mOp1, DL.mAnd, DL.mOr, DL.mNot, DL.mIfE, DL.mChain, DL.mNil, DL.mCons, DL.mTup, DL.mLst, DL.mCallB, DL.mDict0, DL.mPart, DL.mNoPart, DL.mSl, DL.mCall, DL.mCallK, DL.mCallW, DL.mLenScr, DL.mWell, DL.mT, DL.mTAnd, DL.mTOr, DL.mTNot, DL.mTYes, DL.mgName, DL.mgNil_n, DL.mgCons_c, DL.mgTup_t, DL.mgTup_l, DL.miSeq, DL.miRng1, DL.miRng2, DL.mRaise, DL.mApp, DL.mFor, DL.mLc, DL.mrLc, DL.sget, DL.sset, DL.slots0, DL.slotsW, DL.endP, DL.endW, DL.endL, DL.wF, DL.fz_va, DL.fz_own, List.length_cons, List.length_nil, List.map_cons, List.map_nil, List.replicate_succ, List.replicate_zero, Nat.reduceAdd, Nat.reduceSub, Nat.reduceLeDiff, List.cons_append, List.nil_append, Nat.zero_add, Nat.add_zero, Nat.sub_self, Option.some.injEq, PyData.bool.injEq, PyData.int.injEq, PyData.tuple.injEq, PyData.list.injEq, PyData.str.injEq, List.cons.injEq, DL.S.va.injEq, DL.S.own.injEq, DL.S.well.injEq, DL.S.scr.injEq, and_true, true_and, exists_eq_left', exists_eq_left, exists_eq_right, exists_eq_right', exists_and_left, exists_and_right, exists_eq, exists_eq', reduceCtorEq, false_and, and_false, exists_const, if_true, if_false, Bool.false_eq_true, reduceIte, Bool.not_true, Bool.not_false, DL.bIsi, List.any_cons, List.any_nil, Bool.or_false, Bool.or_true, Bool.false_or, Bool.true_or, DL.isK, DL.opAdd_i, DL.opSub_i, DL.opLt_i, DL.opLe_i, DL.opGt_i, DL.opGe_i, DL.opEq_int, DL.opNe_int, DL.opEq_b, DL.opNe_b, DL.opEq_nn, beq_self_eq_true, DL.opEq_str, DL.opNe_str, DL.opIsN_n, DL.opNotN_n, DL.isN, DL.opIsB_b, DL.opNotB_b, DL.opNeg_i, DL.bAbs_i, DL.bMax_i, DL.bMin_i, DL.bInt_i, DL.bGcd_i, DL.bLen_l, DL.bLen_t, DL.opAdd_t, DL.opAdd_l, DL.opIx_l, DL.opIx_t, DL.opSl_t, DL.opSl_l, DL.opRev_t, DL.opRev_l, DL.bList_l, DL.bList_t, DL.bTup_l, DL.bTup_t, DL.atI0, DL.atI1, DL.atI2, DL.atI3, DL.items_t, DL.items_l]
  refine ⟨_, T.eq2, _, rfl, ?_⟩
  have h' := hN (.va (.int (L.W (L.next t)))) (.va (L.O t)) (.va (L.O' t)) (.va (.tuple [.int w0, .int w1])) (.va (.str (L.word (L.next t)))) (.va (.list [fracD (L.F (L.next t)) (L.next t).2, fracD (L.F' (L.next t)) (L.next t).2])) x16 x17 x18
  unfold Ls.ball at h'
  rw [T.way2] at h'
  cases hh : L.hit' (L.next t) with
  | true =>
    rw [if_pos rfl]
    rw [hh, if_pos rfl] at h'
    exact h'
  | false =>
    rw [if_neg (by decide)]
    rw [hh, if_neg (by decide)] at h'
    exact h'
theorem Ls.at_sz (L : Ls) (ok : L.Ok) (gd : ∀ k : Nat, L.Good k (L.at k)) (za : sz 200 L.s) (zb : sz 200 L.z) (zV : sz 200 L.V) (zU : sz 200 L.U) : ∀ j : Nat, j ≤ 4000 → sz 220 (L.at j).1 ∧ sz 200 (L.at j).2
  | 0, _ => ⟨show sz 220 0 by unfold sz; decide, show sz 200 1 by unfold sz; decide⟩
  | i + 1, hi => by
    have h := L.next_le ok (gd i)
    have n0 := (gd (i + 1)).n0
    have m1 := (gd (i + 1)).m1
    have e : L.at (i + 1) = L.next (L.at i) := rfl
    rw [e] at n0 m1 ⊢
    have big : ∀ s : Int, 1 ≤ s → sz 200 s → (L.next (L.at i)).1 ≤ ((i : Int) + 3) * s → sz 220 (L.next (L.at i)).1 := by
      intro s hs zs hle
      have z13 : sz 13 ((i : Int) + 3) := by unfold sz; omega
      have : sz 213 (((i : Int) + 3) * s) := sz_mul z13 zs
      exact sz_mono (sz_le this (by omega)) (by decide)
    refine ⟨?_, ?_⟩
    · rcases h.1 with h | h
      · exact big _ ok.s1 za h
      · exact big _ ok.z1 zb h
    · rcases h.2 with h | h
      · exact sz_le zV (by omega)
      · exact sz_le zU (by omega)
theorem sz_lineVr {v : Int} (h : sz 200 v) : sz 200 (lineV v) := by unfold lineV; split; exact sz_neg h; exact h
theorem rd__law_hits : ∀ ds Q E, D__law_hits ds Q E → m__law_hits (fun c _ => E c) (endP Q) (slots0 19 ds) := by
  rintro _ Q E ⟨a, b, x, y, p, q', k, rfl, a1, b1, x0, x1, y0, y1, w, za, zb, zp, zq, k0, k1, q⟩
  unfold m__law_hits
  have ok := Ls.of_ok a1 b1 x0 x1 y0 y1 w
  obtain ⟨sf, sw, sp0, sp1⟩ := start (v := p) a1 x0 x1
  obtain ⟨sf', sw', sq0, sq1⟩ := start (v := q') b1 y0 y1
  have zV : sz 200 (lineV p) := by unfold lineV; split; exact sz_neg zp; exact zp
  have zU : sz 200 (lineV q') := by unfold lineV; split; exact sz_neg zq; exact zq
  have gd := Ls.at_good (Ls.of a b x y p q') ok ⟨sp0, sp1⟩ ⟨sq0, sq1⟩
  have eb : (Ls.of a b x y p q').ball (0, 1) = .list [.tuple [.int x, .int 1], .tuple [.int y, .int 1], .int (rW a (lineA p x) (lineV p) 0 1), .int (rW b (lineA q' y) (lineV q') 0 1)] := by
    have e1 : (Ls.of a b x y p q').F (0, 1) = x := sf
    have e2 : (Ls.of a b x y p q').F' (0, 1) = y := sf'
    unfold Ls.ball
    rw [e1, e2]
    simp only
    rw [fracD_one, fracD_one]
    rfl
  have adj : ∀ (v s x w : Int) (Y : PyData → Prop), w = (if (v > 0 ∧ x = s) ∨ (v < 0 ∧ x = 0) then -v else v) → Y (.int w) → (if decide (0 < v) = true then if decide (x = s) = true then Y (.int (-v)) else if decide (v < 0) = true then if decide (x = 0) = true then Y (.int (-v)) else Y (.int v) else Y (.int v) else if decide (v < 0) = true then if decide (x = 0) = true then Y (.int (-v)) else Y (.int v) else Y (.int v)) := by
    intro v s x w Y e hY
    rw [e] at hY
    simp only [decide_eq_true_eq]
    split at hY <;> (repeat' split) <;> first | exact hY | omega
  refine seq_run (fun s => s = [.va (.tuple [.int a, .int b]), .va (.tuple [.int x, .int y, .int p, .int q']), .va (.int k), .va (.int x), .va (.int y), .va (.int p), .va (.int q'), .no, .no, .no, .no, .no, .no, .no, .no, .no, .no, .no, .no]) (fun N h => ?_) ?_
  · simp only [DL.mSeq, DL.mAsg, DL.mAsgR, DL.mAsgM, DL.mrs, DL.ssets, DL.mIf, DL.mRet, DL.mRetN, DL.mrOf, DL.mrLst, DL.mrCat, DL.mrCall, DL.mDrop, DL.mNext, DL.mBreak, DL.mCont, DL.mC, DL.mVar, DL.mOp2, DL.mOp1, DL.mAnd, DL.mOr, DL.mNot, DL.mIfE, DL.mChain, DL.mNil, DL.mCons, DL.mTup, DL.mLst, DL.mCallB, DL.mDict0, DL.mPart, DL.mNoPart, DL.mSl, DL.mCall, DL.mCallK, DL.mCallW, DL.mLenScr, DL.mWell, DL.mT, DL.mTAnd, DL.mTOr, DL.mTNot, DL.mTYes, DL.mgName, DL.mgNil_n, DL.mgCons_c, DL.mgTup_t, DL.mgTup_l, DL.miSeq, DL.miRng1, DL.miRng2, DL.mRaise, DL.mApp, DL.mFor, DL.mLc, DL.mrLc, DL.sget, DL.sset, DL.slots0, DL.slotsW, DL.endP, DL.endW, DL.endL, DL.wF, DL.fz_va, DL.fz_own, List.length_cons, List.length_nil, List.map_cons, List.map_nil, List.replicate_succ, List.replicate_zero, Nat.reduceAdd, Nat.reduceSub, Nat.reduceLeDiff, List.cons_append, List.nil_append, Nat.zero_add, Nat.add_zero, Nat.sub_self, Option.some.injEq, PyData.bool.injEq, PyData.int.injEq, PyData.tuple.injEq, PyData.list.injEq, PyData.str.injEq, List.cons.injEq, DL.S.va.injEq, DL.S.own.injEq, DL.S.well.injEq, DL.S.scr.injEq, and_true, true_and, exists_eq_left', exists_eq_left, exists_eq_right, exists_eq_right', exists_and_left, exists_and_right, exists_eq, exists_eq', reduceCtorEq, false_and, and_false, exists_const, if_true, if_false, Bool.false_eq_true, reduceIte, Bool.not_true, Bool.not_false, DL.bIsi, List.any_cons, List.any_nil, Bool.or_false, Bool.or_true, Bool.false_or, Bool.true_or, DL.isK, DL.opAdd_i, DL.opSub_i, DL.opLt_i, DL.opLe_i, DL.opGt_i, DL.opGe_i, DL.opEq_int, DL.opNe_int, DL.opEq_b, DL.opNe_b, DL.opEq_nn, beq_self_eq_true, DL.opEq_str, DL.opNe_str, DL.opIsN_n, DL.opNotN_n, DL.isN, DL.opIsB_b, DL.opNotB_b, DL.opNeg_i, DL.bAbs_i, DL.bMax_i, DL.bMin_i, DL.bInt_i, DL.bGcd_i, DL.bLen_l, DL.bLen_t, DL.opAdd_t, DL.opAdd_l, DL.opIx_l, DL.opIx_t, DL.opSl_t, DL.opSl_l, DL.opRev_t, DL.opRev_l, DL.bList_l, DL.bList_t, DL.bTup_l, DL.bTup_t, DL.atI0, DL.atI1, DL.atI2, DL.atI3, DL.items_t, DL.items_l]
    exact h _ rfl
  rintro _ rfl
  refine seq_run (fun s => s = [.va (.tuple [.int a, .int b]), .va (.tuple [.int x, .int y, .int p, .int q']), .va (.int k), .va (.int x), .va (.int y), .va (.int (rW a (lineA p x) (lineV p) 0 1)), .va (.int q'), .no, .no, .no, .no, .no, .no, .no, .no, .no, .no, .no, .no]) (fun N h => ?_) ?_
  · simp only [DL.mSeq, DL.mAsg, DL.mAsgR, DL.mAsgM, DL.mrs, DL.ssets, DL.mIf, DL.mRet, DL.mRetN, DL.mrOf, DL.mrLst, DL.mrCat, DL.mrCall, DL.mDrop, DL.mNext, DL.mBreak, DL.mCont, DL.mC, DL.mVar, DL.mOp2, DL.mOp1, DL.mAnd, DL.mOr, DL.mNot, DL.mIfE, DL.mChain, DL.mNil, DL.mCons, DL.mTup, DL.mLst, DL.mCallB, DL.mDict0, DL.mPart, DL.mNoPart, DL.mSl, DL.mCall, DL.mCallK, DL.mCallW, DL.mLenScr, DL.mWell, DL.mT, DL.mTAnd, DL.mTOr, DL.mTNot, DL.mTYes, DL.mgName, DL.mgNil_n, DL.mgCons_c, DL.mgTup_t, DL.mgTup_l, DL.miSeq, DL.miRng1, DL.miRng2, DL.mRaise, DL.mApp, DL.mFor, DL.mLc, DL.mrLc, DL.sget, DL.sset, DL.slots0, DL.slotsW, DL.endP, DL.endW, DL.endL, DL.wF, DL.fz_va, DL.fz_own, List.length_cons, List.length_nil, List.map_cons, List.map_nil, List.replicate_succ, List.replicate_zero, Nat.reduceAdd, Nat.reduceSub, Nat.reduceLeDiff, List.cons_append, List.nil_append, Nat.zero_add, Nat.add_zero, Nat.sub_self, Option.some.injEq, PyData.bool.injEq, PyData.int.injEq, PyData.tuple.injEq, PyData.list.injEq, PyData.str.injEq, List.cons.injEq, DL.S.va.injEq, DL.S.own.injEq, DL.S.well.injEq, DL.S.scr.injEq, and_true, true_and, exists_eq_left', exists_eq_left, exists_eq_right, exists_eq_right', exists_and_left, exists_and_right, exists_eq, exists_eq', reduceCtorEq, false_and, and_false, exists_const, if_true, if_false, Bool.false_eq_true, reduceIte, Bool.not_true, Bool.not_false, DL.bIsi, List.any_cons, List.any_nil, Bool.or_false, Bool.or_true, Bool.false_or, Bool.true_or, DL.isK, DL.opAdd_i, DL.opSub_i, DL.opLt_i, DL.opLe_i, DL.opGt_i, DL.opGe_i, DL.opEq_int, DL.opNe_int, DL.opEq_b, DL.opNe_b, DL.opEq_nn, beq_self_eq_true, DL.opEq_str, DL.opNe_str, DL.opIsN_n, DL.opNotN_n, DL.isN, DL.opIsB_b, DL.opNotB_b, DL.opNeg_i, DL.bAbs_i, DL.bMax_i, DL.bMin_i, DL.bInt_i, DL.bGcd_i, DL.bLen_l, DL.bLen_t, DL.opAdd_t, DL.opAdd_l, DL.opIx_l, DL.opIx_t, DL.opSl_t, DL.opSl_l, DL.opRev_t, DL.opRev_l, DL.bList_l, DL.bList_t, DL.bTup_l, DL.bTup_t, DL.atI0, DL.atI1, DL.atI2, DL.atI3, DL.items_t, DL.items_l]
    exact adj p a x _ (fun d => N [.va (.tuple [.int a, .int b]), .va (.tuple [.int x, .int y, .int p, .int q']), .va (.int k), .va (.int x), .va (.int y), .va d, .va (.int q'), .no, .no, .no, .no, .no, .no, .no, .no, .no, .no, .no, .no]) sw (h _ rfl)
  rintro _ rfl
  refine seq_run (fun s => s = [.va (.tuple [.int a, .int b]), .va (.tuple [.int x, .int y, .int p, .int q']), .va (.int k), .va (.int x), .va (.int y), .va (.int (rW a (lineA p x) (lineV p) 0 1)), .va (.int (rW b (lineA q' y) (lineV q') 0 1)), .no, .no, .no, .no, .no, .no, .no, .no, .no, .no, .no, .no]) (fun N h => ?_) ?_
  · simp only [DL.mSeq, DL.mAsg, DL.mAsgR, DL.mAsgM, DL.mrs, DL.ssets, DL.mIf, DL.mRet, DL.mRetN, DL.mrOf, DL.mrLst, DL.mrCat, DL.mrCall, DL.mDrop, DL.mNext, DL.mBreak, DL.mCont, DL.mC, DL.mVar, DL.mOp2, DL.mOp1, DL.mAnd, DL.mOr, DL.mNot, DL.mIfE, DL.mChain, DL.mNil, DL.mCons, DL.mTup, DL.mLst, DL.mCallB, DL.mDict0, DL.mPart, DL.mNoPart, DL.mSl, DL.mCall, DL.mCallK, DL.mCallW, DL.mLenScr, DL.mWell, DL.mT, DL.mTAnd, DL.mTOr, DL.mTNot, DL.mTYes, DL.mgName, DL.mgNil_n, DL.mgCons_c, DL.mgTup_t, DL.mgTup_l, DL.miSeq, DL.miRng1, DL.miRng2, DL.mRaise, DL.mApp, DL.mFor, DL.mLc, DL.mrLc, DL.sget, DL.sset, DL.slots0, DL.slotsW, DL.endP, DL.endW, DL.endL, DL.wF, DL.fz_va, DL.fz_own, List.length_cons, List.length_nil, List.map_cons, List.map_nil, List.replicate_succ, List.replicate_zero, Nat.reduceAdd, Nat.reduceSub, Nat.reduceLeDiff, List.cons_append, List.nil_append, Nat.zero_add, Nat.add_zero, Nat.sub_self, Option.some.injEq, PyData.bool.injEq, PyData.int.injEq, PyData.tuple.injEq, PyData.list.injEq, PyData.str.injEq, List.cons.injEq, DL.S.va.injEq, DL.S.own.injEq, DL.S.well.injEq, DL.S.scr.injEq, and_true, true_and, exists_eq_left', exists_eq_left, exists_eq_right, exists_eq_right', exists_and_left, exists_and_right, exists_eq, exists_eq', reduceCtorEq, false_and, and_false, exists_const, if_true, if_false, Bool.false_eq_true, reduceIte, Bool.not_true, Bool.not_false, DL.bIsi, List.any_cons, List.any_nil, Bool.or_false, Bool.or_true, Bool.false_or, Bool.true_or, DL.isK, DL.opAdd_i, DL.opSub_i, DL.opLt_i, DL.opLe_i, DL.opGt_i, DL.opGe_i, DL.opEq_int, DL.opNe_int, DL.opEq_b, DL.opNe_b, DL.opEq_nn, beq_self_eq_true, DL.opEq_str, DL.opNe_str, DL.opIsN_n, DL.opNotN_n, DL.isN, DL.opIsB_b, DL.opNotB_b, DL.opNeg_i, DL.bAbs_i, DL.bMax_i, DL.bMin_i, DL.bInt_i, DL.bGcd_i, DL.bLen_l, DL.bLen_t, DL.opAdd_t, DL.opAdd_l, DL.opIx_l, DL.opIx_t, DL.opSl_t, DL.opSl_l, DL.opRev_t, DL.opRev_l, DL.bList_l, DL.bList_t, DL.bTup_l, DL.bTup_t, DL.atI0, DL.atI1, DL.atI2, DL.atI3, DL.items_t, DL.items_l]
    exact adj q' b y _ (fun d => N [.va (.tuple [.int a, .int b]), .va (.tuple [.int x, .int y, .int p, .int q']), .va (.int k), .va (.int x), .va (.int y), .va (.int (rW a (lineA p x) (lineV p) 0 1)), .va d, .no, .no, .no, .no, .no, .no, .no, .no, .no, .no, .no, .no]) sw' (h _ rfl)
  rintro _ rfl
  simp only [DL.mSeq, DL.mAsg, DL.mAsgR, DL.mAsgM, DL.mrs, DL.ssets, DL.mIf, DL.mRet, DL.mRetN, DL.mrOf, DL.mrLst, DL.mrCat, DL.mrCall, DL.mDrop, DL.mNext, DL.mBreak, DL.mCont, DL.mC, DL.mVar, DL.mOp2, DL.mOp1, DL.mAnd, DL.mOr, DL.mNot, DL.mIfE, DL.mChain, DL.mNil, DL.mCons, DL.mTup, DL.mLst, DL.mCallB, DL.mDict0, DL.mPart, DL.mNoPart, DL.mSl, DL.mCall, DL.mCallK, DL.mCallW, DL.mLenScr, DL.mWell, DL.mT, DL.mTAnd, DL.mTOr, DL.mTNot, DL.mTYes, DL.mgName, DL.mgNil_n, DL.mgCons_c, DL.mgTup_t, DL.mgTup_l, DL.miSeq, DL.miRng1, DL.miRng2, DL.mRaise, DL.mApp, DL.mFor, DL.mLc, DL.mrLc, DL.sget, DL.sset, DL.slots0, DL.slotsW, DL.endP, DL.endW, DL.endL, DL.wF, DL.fz_va, DL.fz_own, List.length_cons, List.length_nil, List.map_cons, List.map_nil, List.replicate_succ, List.replicate_zero, Nat.reduceAdd, Nat.reduceSub, Nat.reduceLeDiff, List.cons_append, List.nil_append, Nat.zero_add, Nat.add_zero, Nat.sub_self, Option.some.injEq, PyData.bool.injEq, PyData.int.injEq, PyData.tuple.injEq, PyData.list.injEq, PyData.str.injEq, List.cons.injEq, DL.S.va.injEq, DL.S.own.injEq, DL.S.well.injEq, DL.S.scr.injEq, and_true, true_and, exists_eq_left', exists_eq_left, exists_eq_right, exists_eq_right', exists_and_left, exists_and_right, exists_eq, exists_eq', reduceCtorEq, false_and, and_false, exists_const, if_true, if_false, Bool.false_eq_true, reduceIte, Bool.not_true, Bool.not_false, DL.bIsi, List.any_cons, List.any_nil, Bool.or_false, Bool.or_true, Bool.false_or, Bool.true_or, DL.isK, DL.opAdd_i, DL.opSub_i, DL.opLt_i, DL.opLe_i, DL.opGt_i, DL.opGe_i, DL.opEq_int, DL.opNe_int, DL.opEq_b, DL.opNe_b, DL.opEq_nn, beq_self_eq_true, DL.opEq_str, DL.opNe_str, DL.opIsN_n, DL.opNotN_n, DL.isN, DL.opIsB_b, DL.opNotB_b, DL.opNeg_i, DL.bAbs_i, DL.bMax_i, DL.bMin_i, DL.bInt_i, DL.bGcd_i, DL.bLen_l, DL.bLen_t, DL.opAdd_t, DL.opAdd_l, DL.opIx_l, DL.opIx_t, DL.opSl_t, DL.opSl_l, DL.opRev_t, DL.opRev_l, DL.bList_l, DL.bList_t, DL.bTup_l, DL.bTup_t, DL.atI0, DL.atI1, DL.atI2, DL.atI3, DL.items_t, DL.items_l]
  rw [← eb]
  refine ⟨by omega, by omega, ?_⟩
  refine forL_run (fun r s => ∃ (j : Nat) (x5 x10 x11 x12 x13 x14 x15 x16 x17 x18 : S), j + r.length = k.toNat ∧ (∀ d ∈ r, ∃ i : Int, d = .int i) ∧ s = [.va (.tuple [.int a, .int b]), .va (.tuple [.int x, .int y, .int p, .int q']), .va (.int k), .va (.int x), .va (.int y), x5, .va (.int (rW b (lineA q' y) (lineV q') 0 1)), .va ((Ls.of a b x y p q').ball ((Ls.of a b x y p q').at j)), .va (.tuple [.int ((Ls.of a b x y p q').at j).1, .int ((Ls.of a b x y p q').at j).2]), .own ((Ls.of a b x y p q').rows j), x10, x11, x12, x13, x14, x15, x16, x17, x18]) ?_ ?_ _ _ ⟨0, _, _, _, _, _, _, _, _, _, _, ?_, ?_, rfl⟩
  · rintro d r s N ⟨j, x5, x10, x11, x12, x13, x14, x15, x16, x17, x18, hj, hd, rfl⟩ hN
    simp only [List.length_cons] at hj
    obtain ⟨w0, w1, T⟩ := (Ls.of a b x y p q').turn ok (gd j)
    have zt : sz 220 ((Ls.of a b x y p q').at j).1 ∧ sz 200 ((Ls.of a b x y p q').at j).2 := by
      have g := gd j
      cases j with
      | zero => exact ⟨show sz 220 0 by unfold sz; decide, show sz 200 1 by unfold sz; decide⟩
      | succ i =>
        have h := (Ls.of a b x y p q').next_le ok (gd i)
        have n0 := g.n0
        have m1 := g.m1
        have e : (Ls.of a b x y p q').at (i + 1) = (Ls.of a b x y p q').next ((Ls.of a b x y p q').at i) := rfl
        rw [e] at n0 m1 ⊢
        have big : ∀ s : Int, 1 ≤ s → sz 200 s → ((Ls.of a b x y p q').next ((Ls.of a b x y p q').at i)).1 ≤ ((i : Int) + 3) * s → sz 220 ((Ls.of a b x y p q').next ((Ls.of a b x y p q').at i)).1 := by
          intro s hs zs hle
          have z13 : sz 13 ((i : Int) + 3) := by unfold sz; omega
          have : sz 213 (((i : Int) + 3) * s) := sz_mul z13 zs
          exact sz_mono (sz_le this (by omega)) (by decide)
        refine ⟨?_, ?_⟩
        · rcases h.1 with h | h
          · exact big a a1 za h
          · exact big b b1 zb h
        · rcases h.2 with h | h
          · exact sz_le zV (show _ ≤ (lineV p).natAbs by have h : _ ≤ lineV p := h; omega)
          · exact sz_le zU (show _ ≤ (lineV q').natAbs by have h : _ ≤ lineV q' := h; omega)
    simp only [mgName, sset]
    refine turn_run (L := Ls.of a b x y p q') ok (gd j) T (by rw [show (Ls.rows _ j).length = j by simp [Ls.rows]]; omega) za zb zV zU zt.1 zt.2 fun s5 s11 s12 s13 s14 s15 s16 s17 s18 => ?_
    have h' := hN _ ⟨j + 1, s5, .va d, s11, s12, s13, s14, s15, s16, s17, s18, by omega, fun d h => hd d (List.mem_cons_of_mem _ h), rfl⟩
    rw [Ls.rows_succ] at h'
    exact h'
  · rintro s ⟨j, x5, x10, x11, x12, x13, x14, x15, x16, x17, x18, hj, -, rfl⟩
    simp only [DL.mSeq, DL.mAsg, DL.mAsgR, DL.mAsgM, DL.mrs, DL.ssets, DL.mIf, DL.mRet, DL.mRetN, DL.mrOf, DL.mrLst, DL.mrCat, DL.mrCall, DL.mDrop, DL.mNext, DL.mBreak, DL.mCont, DL.mC, DL.mVar, DL.mOp2, DL.mOp1, DL.mAnd, DL.mOr, DL.mNot, DL.mIfE, DL.mChain, DL.mNil, DL.mCons, DL.mTup, DL.mLst, DL.mCallB, DL.mDict0, DL.mPart, DL.mNoPart, DL.mSl, DL.mCall, DL.mCallK, DL.mCallW, DL.mLenScr, DL.mWell, DL.mT, DL.mTAnd, DL.mTOr, DL.mTNot, DL.mTYes, DL.mgName, DL.mgNil_n, DL.mgCons_c, DL.mgTup_t, DL.mgTup_l, DL.miSeq, DL.miRng1, DL.miRng2, DL.mRaise, DL.mApp, DL.mFor, DL.mLc, DL.mrLc, DL.sget, DL.sset, DL.slots0, DL.slotsW, DL.endP, DL.endW, DL.endL, DL.wF, DL.fz_va, DL.fz_own, List.length_cons, List.length_nil, List.map_cons, List.map_nil, List.replicate_succ, List.replicate_zero, Nat.reduceAdd, Nat.reduceSub, Nat.reduceLeDiff, List.cons_append, List.nil_append, Nat.zero_add, Nat.add_zero, Nat.sub_self, Option.some.injEq, PyData.bool.injEq, PyData.int.injEq, PyData.tuple.injEq, PyData.list.injEq, PyData.str.injEq, List.cons.injEq, DL.S.va.injEq, DL.S.own.injEq, DL.S.well.injEq, DL.S.scr.injEq, and_true, true_and, exists_eq_left', exists_eq_left, exists_eq_right, exists_eq_right', exists_and_left, exists_and_right, exists_eq, exists_eq', reduceCtorEq, false_and, and_false, exists_const, if_true, if_false, Bool.false_eq_true, reduceIte, Bool.not_true, Bool.not_false, DL.bIsi, List.any_cons, List.any_nil, Bool.or_false, Bool.or_true, Bool.false_or, Bool.true_or, DL.isK, DL.opAdd_i, DL.opSub_i, DL.opLt_i, DL.opLe_i, DL.opGt_i, DL.opGe_i, DL.opEq_int, DL.opNe_int, DL.opEq_b, DL.opNe_b, DL.opEq_nn, beq_self_eq_true, DL.opEq_str, DL.opNe_str, DL.opIsN_n, DL.opNotN_n, DL.isN, DL.opIsB_b, DL.opNotB_b, DL.opNeg_i, DL.bAbs_i, DL.bMax_i, DL.bMin_i, DL.bInt_i, DL.bGcd_i, DL.bLen_l, DL.bLen_t, DL.opAdd_t, DL.opAdd_l, DL.opIx_l, DL.opIx_t, DL.opSl_t, DL.opSl_l, DL.opRev_t, DL.opRev_l, DL.bList_l, DL.bList_t, DL.bTup_l, DL.bTup_t, DL.atI0, DL.atI1, DL.atI2, DL.atI3, DL.items_t, DL.items_l]
    have e : j = k.toNat := by simpa using hj
    rw [e]
    exact q
  · simp [rangeL]
  · intro d hd
    unfold rangeL at hd
    obtain ⟨i, hi, rfl⟩ := List.mem_map.mp hd
    exact ⟨_, rfl⟩
section
variable {P : Program} {w : World} {K : PySem.W.Frag} {mg : Str → Option Value} {base : Heap} {CN : String → Option Addr}
theorem ok__law_hits {f : Addr} {fd : FuncData} (F : Fun K "_law_hits" "_law_hits" s__law_hits f fd) (g : G K mg CN) (c__law_low : CalP P w K mg base CN 1 "_law_low" D__law_low) (c__law_step : CalP P w K mg base CN 2 "_law_step" D__law_step) : FnG P w K mg base 3 f fd ["desk", "shot_here", "many"] (spP K CN D__law_hits) := by
  have sc := sc__law_hits
  exact fun_okP (m := m__law_hits) F sc (by decide) len__law_hits (fun cdv A outer s H E C W hw hr tk =>
    (pds_cons (pds_asg (ps_asg (dv 1) (pdg_tup rfl (gcons (dg 3 sc.nd) (gcons (dg 4 sc.nd) (gcons (dg 5 sc.nd) (gcons (dg 6 sc.nd) pdgs_nil)))))))
    (pds_cons (pds_asg (ps_asg (pd_ifE (pdt_ofw (pdw_or (pdt_ofw (pdw_and (pdt_cmp op_gt rl_cmpI (dv 5) pd_int (nomark _)) (pdw_and1 (pdt_cmp (or_eqD (RoomG.u64 hr)) rl_eq (dv 3) (pd_ix ix_seq rl_ix (dv 0) pd_int) (nomark _))))) (pdw_or1 (pdt_ofw (pdw_and (pdt_cmp op_lt rl_cmpI (dv 5) pd_int (nomark _)) (pdw_and1 (pdt_cmp (or_eqD (RoomG.u64 hr)) rl_eq (dv 3) pd_int (nomark _)))))))) (pd_un un_neg rl_neg (dv 5)) (dv 5)) (dg 5 sc.nd)))
    (pds_cons (pds_asg (ps_asg (pd_ifE (pdt_ofw (pdw_or (pdt_ofw (pdw_and (pdt_cmp op_gt rl_cmpI (dv 6) pd_int (nomark _)) (pdw_and1 (pdt_cmp (or_eqD (RoomG.u64 hr)) rl_eq (dv 4) (pd_ix ix_seq rl_ix (dv 0) pd_int) (nomark _))))) (pdw_or1 (pdt_ofw (pdw_and (pdt_cmp op_lt rl_cmpI (dv 6) pd_int (nomark _)) (pdw_and1 (pdt_cmp (or_eqD (RoomG.u64 hr)) rl_eq (dv 4) pd_int (nomark _)))))))) (pd_un un_neg rl_neg (dv 6)) (dv 6)) (dg 6 sc.nd)))
    (pds_cons (pds_par3 (ps_par3 (i := 7) (j := 8) (l := 9) rfl sc.nd rfl rfl rfl (by decide) (by decide) (by decide) rfl rfl rfl (pdar_cons (pdr_of (pd_lst (pda_cons (pd_tup (pda_cons (dv 3) (pda_cons pd_int pda_nil))) (pda_cons (pd_tup (pda_cons (dv 4) (pda_cons pd_int pda_nil))) (pda_cons (dv 5) (pda_cons (dv 6) pda_nil)))))) (pdar_cons (pdr_of (pd_tup (pda_cons pd_int (pda_cons pd_int pda_nil)))) (pdar_cons (pdr_lst pda_nil) pdar_nil))) rfl))
    (pds_cons (pds_for (ps_for psw rfl (d_range1 g.b_range (pda_cons (dv 2) pda_nil)) (dg 10 sc.nd) (pds_cons (pds_asg (ps_asg (pd_call c__law_step hr (by decide) tk (pda_cons (dv 0) (pda_cons (dv 7) pda_nil))) (pdg_tup rfl (gcons (dg 11 sc.nd) (gcons (dg 12 sc.nd) pdgs_nil)))))
    (pds_cons (pds_asg (ps_asg (dv 11) (dg 13 sc.nd)))
    (pds_cons (pds_if (pdt_ofw (pdw_or (pdt_cmp op_isN rl_isN (dv 11) pd_non (nomark _)) (pdw_or1 (pdt_ofw (pdw_and (pdt_cmp op_notN rl_notN (dv 12) pd_non (nomark _)) (pdw_and1 (pdt_cmp op_lt rl_cmpI (pd_op or_mul rl_mul (pd_ix ix_seq rl_ix (dv 12) pd_int) (pd_ix ix_seq rl_ix (dv 11) pd_int)) (pd_op or_mul rl_mul (pd_ix ix_seq rl_ix (dv 11) pd_int) (pd_ix ix_seq rl_ix (dv 12) pd_int)) (nomark _)))))))) (pds_one (pds_asg (ps_asg (dv 12) (dg 13 sc.nd)))) pds_nil)
    (pds_cons (pds_asg (ps_asg (pd_call c__law_low hr (by decide) tk (pda_cons (pd_op or_add rl_add (pd_op or_mul rl_mul (pd_ix ix_seq rl_ix (dv 8) pd_int) (pd_ix ix_seq rl_ix (dv 13) pd_int)) (pd_op or_mul rl_mul (pd_ix ix_seq rl_ix (dv 13) pd_int) (pd_ix ix_seq rl_ix (dv 8) pd_int))) (pda_cons (pd_op or_mul rl_mul (pd_ix ix_seq rl_ix (dv 8) pd_int) (pd_ix ix_seq rl_ix (dv 13) pd_int)) pda_nil))) (dg 8 sc.nd)))
    (pds_cons (pds_asg (ps_asg pd_str (dg 14 sc.nd)))
    (pds_cons (pds_if (pdt_cmp (or_eqD (RoomG.u64 hr)) rl_eq (dv 11) (dv 13) (nomark _)) (pds_one (pds_asg (ps_asg (pd_ifE (pdt_cmp op_gt rl_cmpI (pd_ix ix_seq rl_ix (dv 7) pd_int) pd_int (nomark _)) pd_str pd_str) (dg 14 sc.nd)))) pds_nil)
    (pds_cons (pds_if (pdt_cmp (or_eqD (RoomG.u64 hr)) rl_eq (dv 12) (dv 13) (nomark _)) (pds_one (pds_asg (ps_asg (pd_op or_add rl_add (dv 14) (pd_ifE (pdt_cmp op_gt rl_cmpI (pd_ix ix_seq rl_ix (dv 7) pd_int) pd_int (nomark _)) pd_str pd_str)) (dg 14 sc.nd)))) pds_nil)
    (pds_cons (pds_asgR (ps_set (i := 15) sc.nd rfl (.inl rfl) (pdr_lst pda_nil)))
    (pds_cons (pds_for (ps_for psw rfl (pdi_seq (pd_tup (pda_cons (pd_tup (pda_cons (pd_ix ix_seq rl_ix (dv 7) pd_int) (pda_cons (pd_ix ix_seq rl_ix (dv 7) pd_int) pda_nil))) (pda_cons (pd_tup (pda_cons (pd_ix ix_seq rl_ix (dv 7) pd_int) (pda_cons (pd_ix ix_seq rl_ix (dv 7) pd_int) pda_nil))) pda_nil)))) (pdg_tup rfl (gcons (dg 16 sc.nd) (gcons (dg 17 sc.nd) pdgs_nil))) (pds_cons (pds_asg (ps_asg (pd_op or_add rl_add (pd_op or_mul rl_mul (pd_ix ix_seq rl_ix (dv 16) pd_int) (pd_ix ix_seq rl_ix (dv 13) pd_int)) (pd_op or_mul rl_mul (pd_op or_mul rl_mul (dv 17) (pd_ix ix_seq rl_ix (dv 13) pd_int)) (pd_ix ix_seq rl_ix (dv 16) pd_int))) (dg 18 sc.nd)))
    (pds_one (pds_app (ps_expr (pe_bm PySem.F.plainAttrs_list PySem.F.slot_list_append PySem.F.type_list_append mt_append (pv 15) (pa_cons (pd_call c__law_low hr (by decide) tk (pda_cons (dv 18) (pda_cons (pd_op or_mul rl_mul (pd_ix ix_seq rl_ix (dv 16) pd_int) (pd_ix ix_seq rl_ix (dv 13) pd_int)) pda_nil))) pa_nil))))))))
    (pds_cons (pds_app (ps_expr (pe_bm PySem.F.plainAttrs_list PySem.F.slot_list_append PySem.F.type_list_append mt_append (pv 9) (pa_cons (pd_tup (pda_cons (dv 8) (pda_cons (dv 14) (pda_cons (pd_tup (pda_cons (pd_ix ix_seq rl_ix (dv 15) pd_int) (pda_cons (pd_ix ix_seq rl_ix (dv 15) pd_int) pda_nil))) pda_nil)))) pa_nil))))
    (pds_cons (pds_asg (ps_asg (pd_ifE (pdt_cmp (or_eqD (RoomG.u64 hr)) rl_eq (dv 11) (dv 13) (nomark _)) (pd_un un_neg rl_neg (pd_ix ix_seq rl_ix (dv 7) pd_int)) (pd_ix ix_seq rl_ix (dv 7) pd_int)) (dg 5 sc.nd)))
    (pds_one (pds_asg (ps_asg (pd_lst (pda_cons (pd_ix ix_seq rl_ix (dv 15) pd_int) (pda_cons (pd_ix ix_seq rl_ix (dv 15) pd_int) (pda_cons (dv 5) (pda_cons (pd_ifE (pdt_cmp (or_eqD (RoomG.u64 hr)) rl_eq (dv 12) (dv 13) (nomark _)) (pd_un un_neg rl_neg (pd_ix ix_seq rl_ix (dv 7) pd_int)) (pd_ix ix_seq rl_ix (dv 7) pd_int)) pda_nil))))) (dg 7 sc.nd)))))))))))))))))
    (pds_one (pds_ret (pdr_of (dv 9)))))))))) rd__law_hits
end
end LW
namespace LW
open PySem PySem.Spec PyProof.Rows L2 DL
def m__law_way (W : WD) : MS :=
  mSeq (mAsg (mVar 1) (mgTup 4 (mgCons (mgName 3) (mgCons (mgName 4) (mgCons (mgName 5) (mgCons (mgName 6) (mgNil)))))))
  (mSeq (mAsg (mIfE (mTOr (mTAnd (mT (mOp2 opGt (mVar 5) (mC (.int 0)))) (mT (mOp2 opEq (mVar 3) (mOp2 opIx (mVar 0) (mC (.int 0)))))) (mTAnd (mT (mOp2 opLt (mVar 5) (mC (.int 0)))) (mT (mOp2 opEq (mVar 3) (mC (.int 0)))))) (mOp1 opNeg (mVar 5)) (mVar 5)) (mgName 5))
  (mSeq (mAsg (mIfE (mTOr (mTAnd (mT (mOp2 opGt (mVar 6) (mC (.int 0)))) (mT (mOp2 opEq (mVar 4) (mOp2 opIx (mVar 0) (mC (.int 1)))))) (mTAnd (mT (mOp2 opLt (mVar 6) (mC (.int 0)))) (mT (mOp2 opEq (mVar 4) (mC (.int 0)))))) (mOp1 opNeg (mVar 6)) (mVar 6)) (mgName 6))
  (mSeq (mFor (miSeq (mCall D__law_hits W (mCons (mVar 0) (mCons (mVar 1) (mCons (mC (.int 40)) (mNil)))))) (mgTup 3 (mgCons (mgName 7) (mgCons (mgName 8) (mgCons (mgName 9) (mgNil))))) (mSeq (mIf (mT (mOp2 opGt (mOp2 opMul (mOp2 opIx (mVar 7) (mC (.int 0))) (mOp2 opIx (mVar 2) (mC (.int 1)))) (mOp2 opMul (mOp2 opIx (mVar 2) (mC (.int 0))) (mOp2 opIx (mVar 7) (mC (.int 1)))))) (mRet (mrOf (mTup (mCons (mVar 5) (mCons (mVar 6) (mNil)))))) (mNext))
  (mSeq (mAsg (mIfE (mT (mOp2 opIn (mOp2 opIx (mVar 8) (mC (.int 0))) (mC (.str "WE")))) (mOp1 opNeg (mVar 5)) (mVar 5)) (mgName 5))
  (mAsg (mIfE (mT (mOp2 opIn (mOp2 opIx (mVar 8) (mOp1 opNeg (mC (.int 1)))) (mC (.str "SN")))) (mOp1 opNeg (mVar 6)) (mVar 6)) (mgName 6)))))
  (mRet (mrOf (mC .none))))))
theorem Ls.Turn.some_hit {L : Ls} {k : Int} {t : Int × Int} {w0 w1 : Int} (T : L.Turn k t w0 w1) (ok : L.Ok) : L.hit (L.next t) = true ∨ L.hit' (L.next t) = true := by
  have hw := T.wait
  have e : opEq (.tuple [.int w0, .int w1]) (.tuple [.int w0, .int w1]) = some (.bool true) := by rw [opEq_tt]; simp
  unfold Ls.wait at hw
  by_cases hf : L.first t = true
  · rw [if_pos hf] at hw
    left
    have hV : L.V ≠ 0 := by
      unfold Ls.first at hf
      simp only [Bool.and_eq_true, decide_eq_true_eq] at hf
      exact hf.1
    have h := T.eq1
    unfold Ls.O at h
    rw [if_neg hV, hw, e] at h
    simpa using h.symm
  · rw [if_neg hf] at hw
    right
    have hU : L.U ≠ 0 := by
      unfold Ls.first at hf
      simp only [Bool.not_eq_true, Bool.and_eq_false_iff, Bool.or_eq_false_iff, decide_eq_false_iff_not] at hf
      have := ok.w; omega
    have h := T.eq2
    unfold Ls.O' at h
    rw [if_neg hU, hw, e] at h
    simpa using h.symm
theorem word_ix {L : Ls} {k : Int} {t : Int × Int} {w0 w1 : Int} (T : L.Turn k t w0 w1) (ok : L.Ok) : ∃ c0 c1 : Str, opIx (.str (L.word (L.next t))) (.int 0) = some (.str c0) ∧ opIn (.str c0) (.str "WE") = some (.bool (L.hit (L.next t))) ∧ opIx (.str (L.word (L.next t))) (.int (-1)) = some (.str c1) ∧ opIn (.str c1) (.str "SN") = some (.bool (L.hit' (L.next t))) := by
  have h := T.some_hit ok
  unfold Ls.word
  rw [T.word1, T.word2]
  generalize L.hit (L.next t) = h1 at *
  generalize L.hit' (L.next t) = h2 at *
  by_cases c1 : L.W t > 0
  · by_cases c2 : L.W' t > 0
    · rw [if_pos c1, if_pos c2]
      cases h1 <;> cases h2
      · simp at h
      · exact ⟨"N", "N", rfl, rfl, rfl, rfl⟩
      · exact ⟨"E", "E", rfl, rfl, rfl, rfl⟩
      · exact ⟨"E", "N", rfl, rfl, rfl, rfl⟩
    · rw [if_pos c1, if_neg c2]
      cases h1 <;> cases h2
      · simp at h
      · exact ⟨"S", "S", rfl, rfl, rfl, rfl⟩
      · exact ⟨"E", "E", rfl, rfl, rfl, rfl⟩
      · exact ⟨"E", "S", rfl, rfl, rfl, rfl⟩
  · by_cases c2 : L.W' t > 0
    · rw [if_neg c1, if_pos c2]
      cases h1 <;> cases h2
      · simp at h
      · exact ⟨"N", "N", rfl, rfl, rfl, rfl⟩
      · exact ⟨"W", "W", rfl, rfl, rfl, rfl⟩
      · exact ⟨"W", "N", rfl, rfl, rfl, rfl⟩
    · rw [if_neg c1, if_neg c2]
      cases h1 <;> cases h2
      · simp at h
      · exact ⟨"S", "S", rfl, rfl, rfl, rfl⟩
      · exact ⟨"W", "W", rfl, rfl, rfl, rfl⟩
      · exact ⟨"W", "S", rfl, rfl, rfl, rfl⟩
theorem way_between {s A V n m n' m' v0 v1 N M : Int} (hs : 1 ≤ s) (hm : 1 ≤ m) (hm' : 1 ≤ m') (hV : 0 ≤ V) (hv1 : 1 ≤ v1) (hM : 1 ≤ M) (h0 : n * m' ≤ n' * m) (h1 : n' * M < N * m') (ht : N * (m * v1) = (n * v1 + v0 * m) * M) (hle : V * v0 * m ≤ rD s A V n m * v1) : rW s A V n' m' = rW s A V n m := by
  obtain ⟨d0, -⟩ := rD_facts (A := A) (V := V) (n := n) hs hm
  have W1 : 0 < m * m' := Int.mul_pos (by omega) (by omega)
  have lt : (n' * m - n * m') * v1 < v0 * (m * m') := by
    have C : 0 < M * m := Int.mul_pos (by omega) (by omega)
    have e : (v0 * (m * m') - (n' * m - n * m') * v1) * M = (N * m' - n' * M) * (m * v1) := by grind
    have P : 0 < (N * m' - n' * M) * (m * v1) := Int.mul_pos (by omega) (Int.mul_pos (by omega) (by omega))
    rw [← e, Int.mul_comm] at P
    have := pos_of_mul (show 0 < M by omega) P
    omega
  have st : V * (n' * m - n * m') * m < rD s A V n m * (m * m') := by
    by_cases hz : V = 0
    · have : 0 < rD s A V n m * (m * m') := Int.mul_pos d0 W1
      have e : V * (n' * m - n * m') * m = 0 := by rw [hz]; simp
      omega
    · have VM : 0 < V * m := Int.mul_pos (by omega) (by omega)
      refine Int.lt_of_mul_lt_mul_right (a := v1) ?_ (by omega)
      have a1 : V * (n' * m - n * m') * m * v1 = (V * m) * ((n' * m - n * m') * v1) := by simp only [Int.mul_assoc, Int.mul_comm, Int.mul_left_comm]
      have a2 : (V * m) * ((n' * m - n * m') * v1) < (V * m) * (v0 * (m * m')) := Int.mul_lt_mul_of_pos_left lt VM
      have a3 : (V * m) * (v0 * (m * m')) = (V * v0 * m) * (m * m') := by simp only [Int.mul_assoc, Int.mul_comm, Int.mul_left_comm]
      have a4 : (V * v0 * m) * (m * m') ≤ (rD s A V n m * v1) * (m * m') := Int.mul_le_mul_of_nonneg_right hle (by omega)
      have a5 : (rD s A V n m * v1) * (m * m') = rD s A V n m * (m * m') * v1 := by simp only [Int.mul_assoc, Int.mul_comm, Int.mul_left_comm]
      omega
  have a := adv (A := A) (n := n) (n' := n') (m' := m') (w0 := n' * m - n * m') (w1 := m * m') hs hm hm' (by omega) hV (by omega) (by grind) (by omega)
  obtain ⟨p, -⟩ := a.1 st
  unfold rW
  rw [p]
def D__law_way : PSpec := fun ds Q _ => ∃ a b x y p q n m, ds = [.tuple [.int a, .int b], .tuple [.int x, .int y, .int p, .int q], .tuple [.int n, .int m]] ∧ 1 ≤ a ∧ 1 ≤ b ∧ 0 ≤ x ∧ x ≤ a ∧ 0 ≤ y ∧ y ≤ b ∧ (p ≠ 0 ∨ q ≠ 0) ∧ sz 200 a ∧ sz 200 b ∧ sz 200 p ∧ sz 200 q ∧ 0 ≤ n ∧ 1 ≤ m ∧ sz 300 n ∧ sz 300 m ∧ Q (.va .none) ∧ Q (.va (.tuple [.int (rW a (lineA p x) (lineV p) n m), .int (rW b (lineA q y) (lineV q) n m)]))
theorem len__law_way : ∀ ds Q E, D__law_way ds Q E → ds.length = 3 := by
  rintro _ Q E ⟨a, b, x, y, p, q, n, m, rfl, _⟩
  rfl
theorem rows_drop (L : Ls) {k j : Nat} (h : j < k) : (L.rows k).drop j = L.row (L.at (j + 1)) :: (L.rows k).drop (j + 1) := by
  have hl : j < (L.rows k).length := by simpa [Ls.rows] using h
  rw [List.drop_eq_getElem_cons hl]
  congr 1
  simp [Ls.rows]
theorem rd__law_way : ∀ ds Q E, D__law_way ds Q E → m__law_way (fun c _ => E c) (endP Q) (slots0 10 ds) := by
  rintro _ Q E ⟨a, b, x, y, p, q', n, m, rfl, a1, b1, x0, x1, y0, y1, w, za, zb, zp, zq, n0, m1, zn, zm, qn, qw⟩
  unfold m__law_way
  have ok := Ls.of_ok a1 b1 x0 x1 y0 y1 w
  obtain ⟨sf, sw, sp0, sp1⟩ := start (v := p) a1 x0 x1
  obtain ⟨sf', sw', sq0, sq1⟩ := start (v := q') b1 y0 y1
  have gd := Ls.at_good (Ls.of a b x y p q') ok ⟨sp0, sp1⟩ ⟨sq0, sq1⟩
  have sz1 := Ls.at_sz (Ls.of a b x y p q') ok gd za zb (sz_lineVr zp) (sz_lineVr zq)
  have adj : ∀ (v s x w : Int) (Y : PyData → Prop), w = (if (v > 0 ∧ x = s) ∨ (v < 0 ∧ x = 0) then -v else v) → Y (.int w) → (if decide (0 < v) = true then if decide (x = s) = true then Y (.int (-v)) else if decide (v < 0) = true then if decide (x = 0) = true then Y (.int (-v)) else Y (.int v) else Y (.int v) else if decide (v < 0) = true then if decide (x = 0) = true then Y (.int (-v)) else Y (.int v) else Y (.int v)) := by
    intro v s x w Y e hY
    rw [e] at hY
    simp only [decide_eq_true_eq]
    split at hY <;> (repeat' split) <;> first | exact hY | omega
  refine seq_run (fun s => s = [.va (.tuple [.int a, .int b]), .va (.tuple [.int x, .int y, .int p, .int q']), .va (.tuple [.int n, .int m]), .va (.int x), .va (.int y), .va (.int p), .va (.int q'), .no, .no, .no]) (fun N h => ?_) ?_
  · simp only [DL.mSeq, DL.mAsg, DL.mAsgR, DL.mAsgM, DL.mrs, DL.ssets, DL.mIf, DL.mRet, DL.mRetN, DL.mrOf, DL.mrLst, DL.mrCat, DL.mrCall, DL.mDrop, DL.mNext, DL.mBreak, DL.mCont, DL.mC, DL.mVar, DL.mOp2, DL.mOp1, DL.mAnd, DL.mOr, DL.mNot, DL.mIfE, DL.mChain, DL.mNil, DL.mCons, DL.mTup, DL.mLst, DL.mCallB, DL.mDict0, DL.mPart, DL.mNoPart, DL.mSl, DL.mCall, DL.mCallK, DL.mCallW, DL.mLenScr, DL.mWell, DL.mT, DL.mTAnd, DL.mTOr, DL.mTNot, DL.mTYes, DL.mgName, DL.mgNil_n, DL.mgCons_c, DL.mgTup_t, DL.mgTup_l, DL.miSeq, DL.miRng1, DL.miRng2, DL.mRaise, DL.mApp, DL.mFor, DL.mLc, DL.mrLc, DL.sget, DL.sset, DL.slots0, DL.slotsW, DL.endP, DL.endW, DL.endL, DL.wF, DL.fz_va, DL.fz_own, List.length_cons, List.length_nil, List.map_cons, List.map_nil, List.replicate_succ, List.replicate_zero, Nat.reduceAdd, Nat.reduceSub, Nat.reduceLeDiff, List.cons_append, List.nil_append, Nat.zero_add, Nat.add_zero, Nat.sub_self, Option.some.injEq, PyData.bool.injEq, PyData.int.injEq, PyData.tuple.injEq, PyData.list.injEq, PyData.str.injEq, List.cons.injEq, DL.S.va.injEq, DL.S.own.injEq, DL.S.well.injEq, DL.S.scr.injEq, and_true, true_and, exists_eq_left', exists_eq_left, exists_eq_right, exists_eq_right', exists_and_left, exists_and_right, exists_eq, exists_eq', reduceCtorEq, false_and, and_false, exists_const, if_true, if_false, Bool.false_eq_true, reduceIte, Bool.not_true, Bool.not_false, DL.bIsi, List.any_cons, List.any_nil, Bool.or_false, Bool.or_true, Bool.false_or, Bool.true_or, DL.isK, DL.opAdd_i, DL.opSub_i, DL.opLt_i, DL.opLe_i, DL.opGt_i, DL.opGe_i, DL.opEq_int, DL.opNe_int, DL.opEq_b, DL.opNe_b, DL.opEq_nn, beq_self_eq_true, DL.opEq_str, DL.opNe_str, DL.opIsN_n, DL.opNotN_n, DL.isN, DL.opIsB_b, DL.opNotB_b, DL.opNeg_i, DL.bAbs_i, DL.bMax_i, DL.bMin_i, DL.bInt_i, DL.bGcd_i, DL.bLen_l, DL.bLen_t, DL.opAdd_t, DL.opAdd_l, DL.opIx_l, DL.opIx_t, DL.opSl_t, DL.opSl_l, DL.opRev_t, DL.opRev_l, DL.bList_l, DL.bList_t, DL.bTup_l, DL.bTup_t, DL.atI0, DL.atI1, DL.atI2, DL.atI3, DL.items_t, DL.items_l]
    exact h _ rfl
  rintro _ rfl
  refine seq_run (fun s => s = [.va (.tuple [.int a, .int b]), .va (.tuple [.int x, .int y, .int p, .int q']), .va (.tuple [.int n, .int m]), .va (.int x), .va (.int y), .va (.int (rW a (lineA p x) (lineV p) 0 1)), .va (.int q'), .no, .no, .no]) (fun N h => ?_) ?_
  · simp only [DL.mSeq, DL.mAsg, DL.mAsgR, DL.mAsgM, DL.mrs, DL.ssets, DL.mIf, DL.mRet, DL.mRetN, DL.mrOf, DL.mrLst, DL.mrCat, DL.mrCall, DL.mDrop, DL.mNext, DL.mBreak, DL.mCont, DL.mC, DL.mVar, DL.mOp2, DL.mOp1, DL.mAnd, DL.mOr, DL.mNot, DL.mIfE, DL.mChain, DL.mNil, DL.mCons, DL.mTup, DL.mLst, DL.mCallB, DL.mDict0, DL.mPart, DL.mNoPart, DL.mSl, DL.mCall, DL.mCallK, DL.mCallW, DL.mLenScr, DL.mWell, DL.mT, DL.mTAnd, DL.mTOr, DL.mTNot, DL.mTYes, DL.mgName, DL.mgNil_n, DL.mgCons_c, DL.mgTup_t, DL.mgTup_l, DL.miSeq, DL.miRng1, DL.miRng2, DL.mRaise, DL.mApp, DL.mFor, DL.mLc, DL.mrLc, DL.sget, DL.sset, DL.slots0, DL.slotsW, DL.endP, DL.endW, DL.endL, DL.wF, DL.fz_va, DL.fz_own, List.length_cons, List.length_nil, List.map_cons, List.map_nil, List.replicate_succ, List.replicate_zero, Nat.reduceAdd, Nat.reduceSub, Nat.reduceLeDiff, List.cons_append, List.nil_append, Nat.zero_add, Nat.add_zero, Nat.sub_self, Option.some.injEq, PyData.bool.injEq, PyData.int.injEq, PyData.tuple.injEq, PyData.list.injEq, PyData.str.injEq, List.cons.injEq, DL.S.va.injEq, DL.S.own.injEq, DL.S.well.injEq, DL.S.scr.injEq, and_true, true_and, exists_eq_left', exists_eq_left, exists_eq_right, exists_eq_right', exists_and_left, exists_and_right, exists_eq, exists_eq', reduceCtorEq, false_and, and_false, exists_const, if_true, if_false, Bool.false_eq_true, reduceIte, Bool.not_true, Bool.not_false, DL.bIsi, List.any_cons, List.any_nil, Bool.or_false, Bool.or_true, Bool.false_or, Bool.true_or, DL.isK, DL.opAdd_i, DL.opSub_i, DL.opLt_i, DL.opLe_i, DL.opGt_i, DL.opGe_i, DL.opEq_int, DL.opNe_int, DL.opEq_b, DL.opNe_b, DL.opEq_nn, beq_self_eq_true, DL.opEq_str, DL.opNe_str, DL.opIsN_n, DL.opNotN_n, DL.isN, DL.opIsB_b, DL.opNotB_b, DL.opNeg_i, DL.bAbs_i, DL.bMax_i, DL.bMin_i, DL.bInt_i, DL.bGcd_i, DL.bLen_l, DL.bLen_t, DL.opAdd_t, DL.opAdd_l, DL.opIx_l, DL.opIx_t, DL.opSl_t, DL.opSl_l, DL.opRev_t, DL.opRev_l, DL.bList_l, DL.bList_t, DL.bTup_l, DL.bTup_t, DL.atI0, DL.atI1, DL.atI2, DL.atI3, DL.items_t, DL.items_l]
    exact adj p a x _ (fun d => N [.va (.tuple [.int a, .int b]), .va (.tuple [.int x, .int y, .int p, .int q']), .va (.tuple [.int n, .int m]), .va (.int x), .va (.int y), .va d, .va (.int q'), .no, .no, .no]) sw (h _ rfl)
  rintro _ rfl
  refine seq_run (fun s => s = [.va (.tuple [.int a, .int b]), .va (.tuple [.int x, .int y, .int p, .int q']), .va (.tuple [.int n, .int m]), .va (.int x), .va (.int y), .va (.int (rW a (lineA p x) (lineV p) 0 1)), .va (.int (rW b (lineA q' y) (lineV q') 0 1)), .no, .no, .no]) (fun N h => ?_) ?_
  · simp only [DL.mSeq, DL.mAsg, DL.mAsgR, DL.mAsgM, DL.mrs, DL.ssets, DL.mIf, DL.mRet, DL.mRetN, DL.mrOf, DL.mrLst, DL.mrCat, DL.mrCall, DL.mDrop, DL.mNext, DL.mBreak, DL.mCont, DL.mC, DL.mVar, DL.mOp2, DL.mOp1, DL.mAnd, DL.mOr, DL.mNot, DL.mIfE, DL.mChain, DL.mNil, DL.mCons, DL.mTup, DL.mLst, DL.mCallB, DL.mDict0, DL.mPart, DL.mNoPart, DL.mSl, DL.mCall, DL.mCallK, DL.mCallW, DL.mLenScr, DL.mWell, DL.mT, DL.mTAnd, DL.mTOr, DL.mTNot, DL.mTYes, DL.mgName, DL.mgNil_n, DL.mgCons_c, DL.mgTup_t, DL.mgTup_l, DL.miSeq, DL.miRng1, DL.miRng2, DL.mRaise, DL.mApp, DL.mFor, DL.mLc, DL.mrLc, DL.sget, DL.sset, DL.slots0, DL.slotsW, DL.endP, DL.endW, DL.endL, DL.wF, DL.fz_va, DL.fz_own, List.length_cons, List.length_nil, List.map_cons, List.map_nil, List.replicate_succ, List.replicate_zero, Nat.reduceAdd, Nat.reduceSub, Nat.reduceLeDiff, List.cons_append, List.nil_append, Nat.zero_add, Nat.add_zero, Nat.sub_self, Option.some.injEq, PyData.bool.injEq, PyData.int.injEq, PyData.tuple.injEq, PyData.list.injEq, PyData.str.injEq, List.cons.injEq, DL.S.va.injEq, DL.S.own.injEq, DL.S.well.injEq, DL.S.scr.injEq, and_true, true_and, exists_eq_left', exists_eq_left, exists_eq_right, exists_eq_right', exists_and_left, exists_and_right, exists_eq, exists_eq', reduceCtorEq, false_and, and_false, exists_const, if_true, if_false, Bool.false_eq_true, reduceIte, Bool.not_true, Bool.not_false, DL.bIsi, List.any_cons, List.any_nil, Bool.or_false, Bool.or_true, Bool.false_or, Bool.true_or, DL.isK, DL.opAdd_i, DL.opSub_i, DL.opLt_i, DL.opLe_i, DL.opGt_i, DL.opGe_i, DL.opEq_int, DL.opNe_int, DL.opEq_b, DL.opNe_b, DL.opEq_nn, beq_self_eq_true, DL.opEq_str, DL.opNe_str, DL.opIsN_n, DL.opNotN_n, DL.isN, DL.opIsB_b, DL.opNotB_b, DL.opNeg_i, DL.bAbs_i, DL.bMax_i, DL.bMin_i, DL.bInt_i, DL.bGcd_i, DL.bLen_l, DL.bLen_t, DL.opAdd_t, DL.opAdd_l, DL.opIx_l, DL.opIx_t, DL.opSl_t, DL.opSl_l, DL.opRev_t, DL.opRev_l, DL.bList_l, DL.bList_t, DL.bTup_l, DL.bTup_t, DL.atI0, DL.atI1, DL.atI2, DL.atI3, DL.items_t, DL.items_l]
    exact adj q' b y _ (fun d => N [.va (.tuple [.int a, .int b]), .va (.tuple [.int x, .int y, .int p, .int q']), .va (.tuple [.int n, .int m]), .va (.int x), .va (.int y), .va (.int (rW a (lineA p x) (lineV p) 0 1)), .va d, .no, .no, .no]) sw' (h _ rfl)
  rintro _ rfl
  simp only [DL.mSeq, DL.mAsg, DL.mAsgR, DL.mAsgM, DL.mrs, DL.ssets, DL.mIf, DL.mRet, DL.mRetN, DL.mrOf, DL.mrLst, DL.mrCat, DL.mrCall, DL.mDrop, DL.mNext, DL.mBreak, DL.mCont, DL.mC, DL.mVar, DL.mOp2, DL.mOp1, DL.mAnd, DL.mOr, DL.mNot, DL.mIfE, DL.mChain, DL.mNil, DL.mCons, DL.mTup, DL.mLst, DL.mCallB, DL.mDict0, DL.mPart, DL.mNoPart, DL.mSl, DL.mCall, DL.mCallK, DL.mCallW, DL.mLenScr, DL.mWell, DL.mT, DL.mTAnd, DL.mTOr, DL.mTNot, DL.mTYes, DL.mgName, DL.mgNil_n, DL.mgCons_c, DL.mgTup_t, DL.mgTup_l, DL.miSeq, DL.miRng1, DL.miRng2, DL.mRaise, DL.mApp, DL.mFor, DL.mLc, DL.mrLc, DL.sget, DL.sset, DL.slots0, DL.slotsW, DL.endP, DL.endW, DL.endL, DL.wF, DL.fz_va, DL.fz_own, List.length_cons, List.length_nil, List.map_cons, List.map_nil, List.replicate_succ, List.replicate_zero, Nat.reduceAdd, Nat.reduceSub, Nat.reduceLeDiff, List.cons_append, List.nil_append, Nat.zero_add, Nat.add_zero, Nat.sub_self, Option.some.injEq, PyData.bool.injEq, PyData.int.injEq, PyData.tuple.injEq, PyData.list.injEq, PyData.str.injEq, List.cons.injEq, DL.S.va.injEq, DL.S.own.injEq, DL.S.well.injEq, DL.S.scr.injEq, and_true, true_and, exists_eq_left', exists_eq_left, exists_eq_right, exists_eq_right', exists_and_left, exists_and_right, exists_eq, exists_eq', reduceCtorEq, false_and, and_false, exists_const, if_true, if_false, Bool.false_eq_true, reduceIte, Bool.not_true, Bool.not_false, DL.bIsi, List.any_cons, List.any_nil, Bool.or_false, Bool.or_true, Bool.false_or, Bool.true_or, DL.isK, DL.opAdd_i, DL.opSub_i, DL.opLt_i, DL.opLe_i, DL.opGt_i, DL.opGe_i, DL.opEq_int, DL.opNe_int, DL.opEq_b, DL.opNe_b, DL.opEq_nn, beq_self_eq_true, DL.opEq_str, DL.opNe_str, DL.opIsN_n, DL.opNotN_n, DL.isN, DL.opIsB_b, DL.opNotB_b, DL.opNeg_i, DL.bAbs_i, DL.bMax_i, DL.bMin_i, DL.bInt_i, DL.bGcd_i, DL.bLen_l, DL.bLen_t, DL.opAdd_t, DL.opAdd_l, DL.opIx_l, DL.opIx_t, DL.opSl_t, DL.opSl_l, DL.opRev_t, DL.opRev_l, DL.bList_l, DL.bList_t, DL.bTup_l, DL.bTup_t, DL.atI0, DL.atI1, DL.atI2, DL.atI3, DL.items_t, DL.items_l]
  refine ⟨a, b, x, y, p, q', 40, rfl, a1, b1, x0, x1, y0, y1, w, za, zb, zp, zq, by decide, by decide, _, rfl, _, rfl, ?_⟩
  refine forL_run (fun r s => ∃ (j : Nat) (x7 x8 x9 : S), j ≤ 40 ∧ r = ((Ls.of a b x y p q').rows 40).drop j ∧ ((Ls.of a b x y p q').at j).1 * m ≤ n * ((Ls.of a b x y p q').at j).2 ∧ s = [.va (.tuple [.int a, .int b]), .va (.tuple [.int x, .int y, .int p, .int q']), .va (.tuple [.int n, .int m]), .va (.int x), .va (.int y), .va (.int ((Ls.of a b x y p q').W ((Ls.of a b x y p q').at j))), .va (.int ((Ls.of a b x y p q').W' ((Ls.of a b x y p q').at j))), x7, x8, x9]) ?_ ?_ _ _ ⟨0, _, _, _, by decide, rfl, show (0 : Int) * m ≤ n * 1 by omega, rfl⟩
  · rintro d r s N ⟨j, x7, x8, x9, hj, hr, hle, rfl⟩ hN
    have hj' : j < 40 := by
      by_cases c : j < 40
      · exact c
      · have : j = 40 := by omega
        subst this
        rw [List.drop_of_length_le (by simp [Ls.rows])] at hr
        cases hr
    rw [rows_drop _ hj'] at hr
    cases hr
    obtain ⟨w0, w1, T⟩ := (Ls.of a b x y p q').turn ok (gd j)
    obtain ⟨w0', w1', -, g2, g3, g4, g5, g6, g7, g8, g9, g10, -, -⟩ := (Ls.of a b x y p q').step ok (gd j)
    obtain ⟨c0, c1, i1, i2, i3, i4⟩ := word_ix T ok
    have e : (Ls.of a b x y p q').at (j + 1) = (Ls.of a b x y p q').next ((Ls.of a b x y p q').at j) := rfl
    have zt := sz1 (j + 1) (by omega)
    have m1' := (gd j).m1
    have n0' := (gd j).n0
    have b1' : n * ((Ls.of a b x y p q').next ((Ls.of a b x y p q').at j)).2 < ((Ls.of a b x y p q').next ((Ls.of a b x y p q').at j)).1 * m → rW a (lineA p x) (lineV p) n m = (Ls.of a b x y p q').W ((Ls.of a b x y p q').at j) := fun hlt => way_between ok.s1 m1' m1 ok.v0 g2 g6 hle hlt g8 g9
    have b2' : n * ((Ls.of a b x y p q').next ((Ls.of a b x y p q').at j)).2 < ((Ls.of a b x y p q').next ((Ls.of a b x y p q').at j)).1 * m → rW b (lineA q' y) (lineV q') n m = (Ls.of a b x y p q').W' ((Ls.of a b x y p q').at j) := fun hlt => way_between ok.z1 m1' m1 ok.u0 g2 g6 hle hlt g8 g10
    rw [e] at zt ⊢
    unfold Ls.row
    simp only [mgTup_t, mgCons_c, mgName, mgNil_n, sset, items_t, exists_eq_left', Option.some.injEq]
    refine ⟨rfl, ?_⟩
    refine seq_run (fun s => s = [.va (.tuple [.int a, .int b]), .va (.tuple [.int x, .int y, .int p, .int q']), .va (.tuple [.int n, .int m]), .va (.int x), .va (.int y), .va (.int ((Ls.of a b x y p q').W ((Ls.of a b x y p q').at j))), .va (.int ((Ls.of a b x y p q').W' ((Ls.of a b x y p q').at j))), .va (.tuple [.int ((Ls.of a b x y p q').next ((Ls.of a b x y p q').at j)).1, .int ((Ls.of a b x y p q').next ((Ls.of a b x y p q').at j)).2]), .va (.str ((Ls.of a b x y p q').word ((Ls.of a b x y p q').next ((Ls.of a b x y p q').at j)))), .va ((Ls.of a b x y p q').place ((Ls.of a b x y p q').next ((Ls.of a b x y p q').at j)))] ∧ ((Ls.of a b x y p q').next ((Ls.of a b x y p q').at j)).1 * m ≤ n * ((Ls.of a b x y p q').next ((Ls.of a b x y p q').at j)).2) (fun N1 h => ?_) ?_
    · refine if_run (decide (n * ((Ls.of a b x y p q').next ((Ls.of a b x y p q').at j)).2 < ((Ls.of a b x y p q').next ((Ls.of a b x y p q').at j)).1 * m)) (fun Q h => by
        simp only [DL.mSeq, DL.mAsg, DL.mAsgR, DL.mAsgM, DL.mrs, DL.ssets, DL.mIf, DL.mRet, DL.mRetN, DL.mrOf, DL.mrLst, DL.mrCat, DL.mrCall, DL.mDrop, DL.mNext, DL.mBreak, DL.mCont, DL.mC, DL.mVar, DL.mOp2, DL.mOp1, DL.mAnd, DL.mOr, DL.mNot, DL.mIfE, DL.mChain, DL.mNil, DL.mCons, DL.mTup, DL.mLst, DL.mCallB, DL.mDict0, DL.mPart, DL.mNoPart, DL.mSl, DL.mCall, DL.mCallK, DL.mCallW, DL.mLenScr, DL.mWell, DL.mT, DL.mTAnd, DL.mTOr, DL.mTNot, DL.mTYes, DL.mgName, DL.mgNil_n, DL.mgCons_c, DL.mgTup_t, DL.mgTup_l, DL.miSeq, DL.miRng1, DL.miRng2, DL.mRaise, DL.mApp, DL.mFor, DL.mLc, DL.mrLc, DL.sget, DL.sset, DL.slots0, DL.slotsW, DL.endP, DL.endW, DL.endL, DL.wF, DL.fz_va, DL.fz_own, List.length_cons, List.length_nil, List.map_cons, List.map_nil, List.replicate_succ, List.replicate_zero, Nat.reduceAdd, Nat.reduceSub, Nat.reduceLeDiff, List.cons_append, List.nil_append, Nat.zero_add, Nat.add_zero, Nat.sub_self, Option.some.injEq, PyData.bool.injEq, PyData.int.injEq, PyData.tuple.injEq, PyData.list.injEq, PyData.str.injEq, List.cons.injEq, DL.S.va.injEq, DL.S.own.injEq, DL.S.well.injEq, DL.S.scr.injEq, and_true, true_and, exists_eq_left', exists_eq_left, exists_eq_right, exists_eq_right', exists_and_left, exists_and_right, exists_eq, exists_eq', reduceCtorEq, false_and, and_false, exists_const, if_true, if_false, Bool.false_eq_true, reduceIte, Bool.not_true, Bool.not_false, DL.bIsi, List.any_cons, List.any_nil, Bool.or_false, Bool.or_true, Bool.false_or, Bool.true_or, DL.isK, DL.opAdd_i, DL.opSub_i, DL.opLt_i, DL.opLe_i, DL.opGt_i, DL.opGe_i, DL.opEq_int, DL.opNe_int, DL.opEq_b, DL.opNe_b, DL.opEq_nn, beq_self_eq_true, DL.opEq_str, DL.opNe_str, DL.opIsN_n, DL.opNotN_n, DL.isN, DL.opIsB_b, DL.opNotB_b, DL.opNeg_i, DL.bAbs_i, DL.bMax_i, DL.bMin_i, DL.bInt_i, DL.bGcd_i, DL.bLen_l, DL.bLen_t, DL.opAdd_t, DL.opAdd_l, DL.opIx_l, DL.opIx_t, DL.opSl_t, DL.opSl_l, DL.opRev_t, DL.opRev_l, DL.bList_l, DL.bList_t, DL.bTup_l, DL.bTup_t, DL.atI0, DL.atI1, DL.atI2, DL.atI3, DL.items_t, DL.items_l]
        exact ⟨_, opMul_ok zt.1 zm (by decide), _, opMul_ok zn zt.2 (by decide), _, rfl, _, rfl, h⟩) (fun hc => ?_) (fun hc => ?_)
      · have hc := of_decide_eq_true hc
        simp only [DL.mSeq, DL.mAsg, DL.mAsgR, DL.mAsgM, DL.mrs, DL.ssets, DL.mIf, DL.mRet, DL.mRetN, DL.mrOf, DL.mrLst, DL.mrCat, DL.mrCall, DL.mDrop, DL.mNext, DL.mBreak, DL.mCont, DL.mC, DL.mVar, DL.mOp2, DL.mOp1, DL.mAnd, DL.mOr, DL.mNot, DL.mIfE, DL.mChain, DL.mNil, DL.mCons, DL.mTup, DL.mLst, DL.mCallB, DL.mDict0, DL.mPart, DL.mNoPart, DL.mSl, DL.mCall, DL.mCallK, DL.mCallW, DL.mLenScr, DL.mWell, DL.mT, DL.mTAnd, DL.mTOr, DL.mTNot, DL.mTYes, DL.mgName, DL.mgNil_n, DL.mgCons_c, DL.mgTup_t, DL.mgTup_l, DL.miSeq, DL.miRng1, DL.miRng2, DL.mRaise, DL.mApp, DL.mFor, DL.mLc, DL.mrLc, DL.sget, DL.sset, DL.slots0, DL.slotsW, DL.endP, DL.endW, DL.endL, DL.wF, DL.fz_va, DL.fz_own, List.length_cons, List.length_nil, List.map_cons, List.map_nil, List.replicate_succ, List.replicate_zero, Nat.reduceAdd, Nat.reduceSub, Nat.reduceLeDiff, List.cons_append, List.nil_append, Nat.zero_add, Nat.add_zero, Nat.sub_self, Option.some.injEq, PyData.bool.injEq, PyData.int.injEq, PyData.tuple.injEq, PyData.list.injEq, PyData.str.injEq, List.cons.injEq, DL.S.va.injEq, DL.S.own.injEq, DL.S.well.injEq, DL.S.scr.injEq, and_true, true_and, exists_eq_left', exists_eq_left, exists_eq_right, exists_eq_right', exists_and_left, exists_and_right, exists_eq, exists_eq', reduceCtorEq, false_and, and_false, exists_const, if_true, if_false, Bool.false_eq_true, reduceIte, Bool.not_true, Bool.not_false, DL.bIsi, List.any_cons, List.any_nil, Bool.or_false, Bool.or_true, Bool.false_or, Bool.true_or, DL.isK, DL.opAdd_i, DL.opSub_i, DL.opLt_i, DL.opLe_i, DL.opGt_i, DL.opGe_i, DL.opEq_int, DL.opNe_int, DL.opEq_b, DL.opNe_b, DL.opEq_nn, beq_self_eq_true, DL.opEq_str, DL.opNe_str, DL.opIsN_n, DL.opNotN_n, DL.isN, DL.opIsB_b, DL.opNotB_b, DL.opNeg_i, DL.bAbs_i, DL.bMax_i, DL.bMin_i, DL.bInt_i, DL.bGcd_i, DL.bLen_l, DL.bLen_t, DL.opAdd_t, DL.opAdd_l, DL.opIx_l, DL.opIx_t, DL.opSl_t, DL.opSl_l, DL.opRev_t, DL.opRev_l, DL.bList_l, DL.bList_t, DL.bTup_l, DL.bTup_t, DL.atI0, DL.atI1, DL.atI2, DL.atI3, DL.items_t, DL.items_l]
        rw [b1' hc, b2' hc] at qw
        exact qw
      · have hc := of_decide_eq_false hc
        exact h _ ⟨rfl, by omega⟩
    · rintro _ ⟨rfl, hle'⟩
      refine seq_run (fun s => s = [.va (.tuple [.int a, .int b]), .va (.tuple [.int x, .int y, .int p, .int q']), .va (.tuple [.int n, .int m]), .va (.int x), .va (.int y), .va (.int ((Ls.of a b x y p q').W ((Ls.of a b x y p q').next ((Ls.of a b x y p q').at j)))), .va (.int ((Ls.of a b x y p q').W' ((Ls.of a b x y p q').at j))), .va (.tuple [.int ((Ls.of a b x y p q').next ((Ls.of a b x y p q').at j)).1, .int ((Ls.of a b x y p q').next ((Ls.of a b x y p q').at j)).2]), .va (.str ((Ls.of a b x y p q').word ((Ls.of a b x y p q').next ((Ls.of a b x y p q').at j)))), .va ((Ls.of a b x y p q').place ((Ls.of a b x y p q').next ((Ls.of a b x y p q').at j)))]) (fun N1 h => ?_) ?_
      · simp only [DL.mSeq, DL.mAsg, DL.mAsgR, DL.mAsgM, DL.mrs, DL.ssets, DL.mIf, DL.mRet, DL.mRetN, DL.mrOf, DL.mrLst, DL.mrCat, DL.mrCall, DL.mDrop, DL.mNext, DL.mBreak, DL.mCont, DL.mC, DL.mVar, DL.mOp2, DL.mOp1, DL.mAnd, DL.mOr, DL.mNot, DL.mIfE, DL.mChain, DL.mNil, DL.mCons, DL.mTup, DL.mLst, DL.mCallB, DL.mDict0, DL.mPart, DL.mNoPart, DL.mSl, DL.mCall, DL.mCallK, DL.mCallW, DL.mLenScr, DL.mWell, DL.mT, DL.mTAnd, DL.mTOr, DL.mTNot, DL.mTYes, DL.mgName, DL.mgNil_n, DL.mgCons_c, DL.mgTup_t, DL.mgTup_l, DL.miSeq, DL.miRng1, DL.miRng2, DL.mRaise, DL.mApp, DL.mFor, DL.mLc, DL.mrLc, DL.sget, DL.sset, DL.slots0, DL.slotsW, DL.endP, DL.endW, DL.endL, DL.wF, DL.fz_va, DL.fz_own, List.length_cons, List.length_nil, List.map_cons, List.map_nil, List.replicate_succ, List.replicate_zero, Nat.reduceAdd, Nat.reduceSub, Nat.reduceLeDiff, List.cons_append, List.nil_append, Nat.zero_add, Nat.add_zero, Nat.sub_self, Option.some.injEq, PyData.bool.injEq, PyData.int.injEq, PyData.tuple.injEq, PyData.list.injEq, PyData.str.injEq, List.cons.injEq, DL.S.va.injEq, DL.S.own.injEq, DL.S.well.injEq, DL.S.scr.injEq, and_true, true_and, exists_eq_left', exists_eq_left, exists_eq_right, exists_eq_right', exists_and_left, exists_and_right, exists_eq, exists_eq', reduceCtorEq, false_and, and_false, exists_const, if_true, if_false, Bool.false_eq_true, reduceIte, Bool.not_true, Bool.not_false, DL.bIsi, List.any_cons, List.any_nil, Bool.or_false, Bool.or_true, Bool.false_or, Bool.true_or, DL.isK, DL.opAdd_i, DL.opSub_i, DL.opLt_i, DL.opLe_i, DL.opGt_i, DL.opGe_i, DL.opEq_int, DL.opNe_int, DL.opEq_b, DL.opNe_b, DL.opEq_nn, beq_self_eq_true, DL.opEq_str, DL.opNe_str, DL.opIsN_n, DL.opNotN_n, DL.isN, DL.opIsB_b, DL.opNotB_b, DL.opNeg_i, DL.bAbs_i, DL.bMax_i, DL.bMin_i, DL.bInt_i, DL.bGcd_i, DL.bLen_l, DL.bLen_t, DL.opAdd_t, DL.opAdd_l, DL.opIx_l, DL.opIx_t, DL.opSl_t, DL.opSl_l, DL.opRev_t, DL.opRev_l, DL.bList_l, DL.bList_t, DL.bTup_l, DL.bTup_t, DL.atI0, DL.atI1, DL.atI2, DL.atI3, DL.items_t, DL.items_l]
        refine ⟨_, i1, _, i2, _, rfl, ?_⟩
        have h' := h _ rfl
        rw [T.way1] at h'
        cases hh : (Ls.of a b x y p q').hit ((Ls.of a b x y p q').next ((Ls.of a b x y p q').at j)) with
        | true =>
          rw [if_pos rfl]
          rw [hh, if_pos rfl] at h'
          exact h'
        | false =>
          rw [if_neg (by decide)]
          rw [hh, if_neg (by decide)] at h'
          exact h'
      · rintro _ rfl
        simp only [DL.mSeq, DL.mAsg, DL.mAsgR, DL.mAsgM, DL.mrs, DL.ssets, DL.mIf, DL.mRet, DL.mRetN, DL.mrOf, DL.mrLst, DL.mrCat, DL.mrCall, DL.mDrop, DL.mNext, DL.mBreak, DL.mCont, DL.mC, DL.mVar, DL.mOp2, DL.mOp1, DL.mAnd, DL.mOr, DL.mNot, DL.mIfE, DL.mChain, DL.mNil, DL.mCons, DL.mTup, DL.mLst, DL.mCallB, DL.mDict0, DL.mPart, DL.mNoPart, DL.mSl, DL.mCall, DL.mCallK, DL.mCallW, DL.mLenScr, DL.mWell, DL.mT, DL.mTAnd, DL.mTOr, DL.mTNot, DL.mTYes, DL.mgName, DL.mgNil_n, DL.mgCons_c, DL.mgTup_t, DL.mgTup_l, DL.miSeq, DL.miRng1, DL.miRng2, DL.mRaise, DL.mApp, DL.mFor, DL.mLc, DL.mrLc, DL.sget, DL.sset, DL.slots0, DL.slotsW, DL.endP, DL.endW, DL.endL, DL.wF, DL.fz_va, DL.fz_own, List.length_cons, List.length_nil, List.map_cons, List.map_nil, List.replicate_succ, List.replicate_zero, Nat.reduceAdd, Nat.reduceSub, Nat.reduceLeDiff, List.cons_append, List.nil_append, Nat.zero_add, Nat.add_zero, Nat.sub_self, Option.some.injEq, PyData.bool.injEq, PyData.int.injEq, PyData.tuple.injEq, PyData.list.injEq, PyData.str.injEq, List.cons.injEq, DL.S.va.injEq, DL.S.own.injEq, DL.S.well.injEq, DL.S.scr.injEq, and_true, true_and, exists_eq_left', exists_eq_left, exists_eq_right, exists_eq_right', exists_and_left, exists_and_right, exists_eq, exists_eq', reduceCtorEq, false_and, and_false, exists_const, if_true, if_false, Bool.false_eq_true, reduceIte, Bool.not_true, Bool.not_false, DL.bIsi, List.any_cons, List.any_nil, Bool.or_false, Bool.or_true, Bool.false_or, Bool.true_or, DL.isK, DL.opAdd_i, DL.opSub_i, DL.opLt_i, DL.opLe_i, DL.opGt_i, DL.opGe_i, DL.opEq_int, DL.opNe_int, DL.opEq_b, DL.opNe_b, DL.opEq_nn, beq_self_eq_true, DL.opEq_str, DL.opNe_str, DL.opIsN_n, DL.opNotN_n, DL.isN, DL.opIsB_b, DL.opNotB_b, DL.opNeg_i, DL.bAbs_i, DL.bMax_i, DL.bMin_i, DL.bInt_i, DL.bGcd_i, DL.bLen_l, DL.bLen_t, DL.opAdd_t, DL.opAdd_l, DL.opIx_l, DL.opIx_t, DL.opSl_t, DL.opSl_l, DL.opRev_t, DL.opRev_l, DL.bList_l, DL.bList_t, DL.bTup_l, DL.bTup_t, DL.atI0, DL.atI1, DL.atI2, DL.atI3, DL.items_t, DL.items_l]
        refine ⟨_, i3, _, i4, _, rfl, ?_⟩
        have h' := hN _ ⟨j + 1, .va (.tuple [.int ((Ls.of a b x y p q').next ((Ls.of a b x y p q').at j)).1, .int ((Ls.of a b x y p q').next ((Ls.of a b x y p q').at j)).2]), .va (.str ((Ls.of a b x y p q').word ((Ls.of a b x y p q').next ((Ls.of a b x y p q').at j)))), .va ((Ls.of a b x y p q').place ((Ls.of a b x y p q').next ((Ls.of a b x y p q').at j))), by omega, rfl, hle', rfl⟩
        rw [e, T.way2] at h'
        cases hh : (Ls.of a b x y p q').hit' ((Ls.of a b x y p q').next ((Ls.of a b x y p q').at j)) with
        | true =>
          rw [if_pos rfl]
          rw [hh, if_pos rfl] at h'
          exact h'
        | false =>
          rw [if_neg (by decide)]
          rw [hh, if_neg (by decide)] at h'
          exact h'
  · rintro s ⟨j, x7, x8, x9, hj, hr, hle, rfl⟩
    simp only [DL.mSeq, DL.mAsg, DL.mAsgR, DL.mAsgM, DL.mrs, DL.ssets, DL.mIf, DL.mRet, DL.mRetN, DL.mrOf, DL.mrLst, DL.mrCat, DL.mrCall, DL.mDrop, DL.mNext, DL.mBreak, DL.mCont, DL.mC, DL.mVar, DL.mOp2, DL.mOp1, DL.mAnd, DL.mOr, DL.mNot, DL.mIfE, DL.mChain, DL.mNil, DL.mCons, DL.mTup, DL.mLst, DL.mCallB, DL.mDict0, DL.mPart, DL.mNoPart, DL.mSl, DL.mCall, DL.mCallK, DL.mCallW, DL.mLenScr, DL.mWell, DL.mT, DL.mTAnd, DL.mTOr, DL.mTNot, DL.mTYes, DL.mgName, DL.mgNil_n, DL.mgCons_c, DL.mgTup_t, DL.mgTup_l, DL.miSeq, DL.miRng1, DL.miRng2, DL.mRaise, DL.mApp, DL.mFor, DL.mLc, DL.mrLc, DL.sget, DL.sset, DL.slots0, DL.slotsW, DL.endP, DL.endW, DL.endL, DL.wF, DL.fz_va, DL.fz_own, List.length_cons, List.length_nil, List.map_cons, List.map_nil, List.replicate_succ, List.replicate_zero, Nat.reduceAdd, Nat.reduceSub, Nat.reduceLeDiff, List.cons_append, List.nil_append, Nat.zero_add, Nat.add_zero, Nat.sub_self, Option.some.injEq, PyData.bool.injEq, PyData.int.injEq, PyData.tuple.injEq, PyData.list.injEq, PyData.str.injEq, List.cons.injEq, DL.S.va.injEq, DL.S.own.injEq, DL.S.well.injEq, DL.S.scr.injEq, and_true, true_and, exists_eq_left', exists_eq_left, exists_eq_right, exists_eq_right', exists_and_left, exists_and_right, exists_eq, exists_eq', reduceCtorEq, false_and, and_false, exists_const, if_true, if_false, Bool.false_eq_true, reduceIte, Bool.not_true, Bool.not_false, DL.bIsi, List.any_cons, List.any_nil, Bool.or_false, Bool.or_true, Bool.false_or, Bool.true_or, DL.isK, DL.opAdd_i, DL.opSub_i, DL.opLt_i, DL.opLe_i, DL.opGt_i, DL.opGe_i, DL.opEq_int, DL.opNe_int, DL.opEq_b, DL.opNe_b, DL.opEq_nn, beq_self_eq_true, DL.opEq_str, DL.opNe_str, DL.opIsN_n, DL.opNotN_n, DL.isN, DL.opIsB_b, DL.opNotB_b, DL.opNeg_i, DL.bAbs_i, DL.bMax_i, DL.bMin_i, DL.bInt_i, DL.bGcd_i, DL.bLen_l, DL.bLen_t, DL.opAdd_t, DL.opAdd_l, DL.opIx_l, DL.opIx_t, DL.opSl_t, DL.opSl_l, DL.opRev_t, DL.opRev_l, DL.bList_l, DL.bList_t, DL.bTup_l, DL.bTup_t, DL.atI0, DL.atI1, DL.atI2, DL.atI3, DL.items_t, DL.items_l]
    exact qn
section
variable {P : Program} {w : World} {K : PySem.W.Frag} {mg : Str → Option Value} {base : Heap} {CN : String → Option Addr}
theorem ok__law_way {f : Addr} {fd : FuncData} (F : Fun K "_law_way" "_law_way" s__law_way f fd) (g : G K mg CN) (c__law_hits : CalP P w K mg base CN 3 "_law_hits" D__law_hits) : FnG P w K mg base 4 f fd ["desk", "shot_here", "time_here"] (spP K CN D__law_way) := by
  have sc := sc__law_way
  exact fun_okP (m := m__law_way) F sc (by decide) len__law_way (fun cdv A outer s H E C W hw hr tk =>
    (pds_cons (pds_asg (ps_asg (dv 1) (pdg_tup rfl (gcons (dg 3 sc.nd) (gcons (dg 4 sc.nd) (gcons (dg 5 sc.nd) (gcons (dg 6 sc.nd) pdgs_nil)))))))
    (pds_cons (pds_asg (ps_asg (pd_ifE (pdt_ofw (pdw_or (pdt_ofw (pdw_and (pdt_cmp op_gt rl_cmpI (dv 5) pd_int (nomark _)) (pdw_and1 (pdt_cmp (or_eqD (RoomG.u64 hr)) rl_eq (dv 3) (pd_ix ix_seq rl_ix (dv 0) pd_int) (nomark _))))) (pdw_or1 (pdt_ofw (pdw_and (pdt_cmp op_lt rl_cmpI (dv 5) pd_int (nomark _)) (pdw_and1 (pdt_cmp (or_eqD (RoomG.u64 hr)) rl_eq (dv 3) pd_int (nomark _)))))))) (pd_un un_neg rl_neg (dv 5)) (dv 5)) (dg 5 sc.nd)))
    (pds_cons (pds_asg (ps_asg (pd_ifE (pdt_ofw (pdw_or (pdt_ofw (pdw_and (pdt_cmp op_gt rl_cmpI (dv 6) pd_int (nomark _)) (pdw_and1 (pdt_cmp (or_eqD (RoomG.u64 hr)) rl_eq (dv 4) (pd_ix ix_seq rl_ix (dv 0) pd_int) (nomark _))))) (pdw_or1 (pdt_ofw (pdw_and (pdt_cmp op_lt rl_cmpI (dv 6) pd_int (nomark _)) (pdw_and1 (pdt_cmp (or_eqD (RoomG.u64 hr)) rl_eq (dv 4) pd_int (nomark _)))))))) (pd_un un_neg rl_neg (dv 6)) (dv 6)) (dg 6 sc.nd)))
    (pds_cons (pds_for (ps_for psw rfl (pdi_seq (pd_call c__law_hits hr (by decide) tk (pda_cons (dv 0) (pda_cons (dv 1) (pda_cons pd_int pda_nil))))) (pdg_tup rfl (gcons (dg 7 sc.nd) (gcons (dg 8 sc.nd) (gcons (dg 9 sc.nd) pdgs_nil)))) (pds_cons (pds_if (pdt_cmp op_gt rl_cmpI (pd_op or_mul rl_mul (pd_ix ix_seq rl_ix (dv 7) pd_int) (pd_ix ix_seq rl_ix (dv 2) pd_int)) (pd_op or_mul rl_mul (pd_ix ix_seq rl_ix (dv 2) pd_int) (pd_ix ix_seq rl_ix (dv 7) pd_int)) (nomark _)) (pds_one (pds_ret (pdr_of (pd_tup (pda_cons (dv 5) (pda_cons (dv 6) pda_nil)))))) pds_nil)
    (pds_cons (pds_asg (ps_asg (pd_ifE (pdt_cmp or_in rl_in (pd_ix ix_seq rl_ix (dv 8) pd_int) pd_str rfl) (pd_un un_neg rl_neg (dv 5)) (dv 5)) (dg 5 sc.nd)))
    (pds_one (pds_asg (ps_asg (pd_ifE (pdt_cmp or_in rl_in (pd_ix ix_seq rl_ix (dv 8) (pd_un un_neg rl_neg pd_int)) pd_str rfl) (pd_un un_neg rl_neg (dv 6)) (dv 6)) (dg 6 sc.nd))))))))
    (pds_one (pds_ret (pdr_of pd_non)))))))) rd__law_way
end
end LW
namespace LW
open PySem PySem.Spec PyProof.Rows L2 DL
def m__law_right (W : WD) : MS :=
  mSeq (mAsg (mVar 2) (mgTup 2 (mgCons (mgName 3) (mgCons (mgName 4) (mgNil)))))
  (mSeq (mAsg (mCall D__law_spot W (mCons (mVar 0) (mCons (mVar 1) (mCons (mVar 3) (mCons (mVar 4) (mNil)))))) (mgName 5))
  (mSeq (mAsg (mCall D_place_at W (mCons (mVar 0) (mCons (mVar 1) (mCons (mVar 2) (mNil))))) (mgName 6))
  (mSeq (mIf (mTNot (mT (mCall (D__law_same 5) W (mCons (mLst (mCons (mVar 6) (mCons (mCallK D_place_at W (gSel 0 3 [.k 2, .k 1, .k 0]) mNil (mCons (mVar 2) (mCons (mVar 1) (mCons (mVar 0) (mNil))))) (mNil)))) (mCons (mLst (mCons (mVar 5) (mCons (mVar 5) (mNil)))) (mNil)))))) (mRet (mrOf (mC (.bool false)))) (mNext))
  (mSeq (mAsg (mCall D_way_at W (mCons (mVar 0) (mCons (mVar 1) (mCons (mVar 2) (mNil))))) (mgName 7))
  (mSeq (mIf (mTNot (mT (mCall (D__law_same 5) W (mCons (mVar 7) (mCons (mCallK D_way_at W (gSel 0 3 [.k 2, .k 1, .k 0]) mNil (mCons (mVar 2) (mCons (mVar 1) (mCons (mVar 0) (mNil))))) (mNil)))))) (mRet (mrOf (mC (.bool false)))) (mNext))
  (mSeq (mIf (mT (mOp2 opNe (mLc (miSeq (mVar 7)) (mgName 10) (mTYes) (mCallB bAbs (mCons (mVar 10) (mNil))) [10]) (mLc (miSeq (mSl opSl (mVar 1) (mPart (mC (.int 2))) mNoPart)) (mgName 10) (mTYes) (mCallB bAbs (mCons (mVar 10) (mNil))) [10]))) (mRet (mrOf (mC (.bool false)))) (mNext))
  (mSeq (mAsg (mAnd (mOp2 opEq (mOp2 opIx (mOp2 opIx (mVar 5) (mC (.int 0))) (mC (.int 1))) (mC (.int 1))) (mOp2 opEq (mOp2 opIx (mOp2 opIx (mVar 5) (mC (.int 1))) (mC (.int 1))) (mC (.int 1)))) (mgName 8))
  (mSeq (mAsg (mIfE (mT (mVar 8)) (mOp2 opAdd (mTup (mCons (mOp2 opIx (mOp2 opIx (mVar 5) (mC (.int 0))) (mC (.int 0))) (mCons (mOp2 opIx (mOp2 opIx (mVar 5) (mC (.int 1))) (mC (.int 0))) (mNil)))) (mVar 7)) (mC .none)) (mgName 9))
  (mSeq (mAsg (mLst (mCons (mCall D_shot_at W (mCons (mVar 0) (mCons (mVar 1) (mCons (mVar 2) (mNil))))) (mCons (mCallK D_shot_at W (gSel 0 3 [.k 2, .k 1, .k 0]) mNil (mCons (mVar 2) (mCons (mVar 1) (mCons (mVar 0) (mNil))))) (mNil)))) (mgName 6))
  (mRet (mrOf (mCall (D__law_same 5) W (mCons (mVar 6) (mCons (mLst (mCons (mVar 9) (mCons (mVar 9) (mNil)))) (mNil)))))))))))))))
theorem gcd_lin {T R B k : Int} (e : R = T + B * k ∨ R = -T + B * k) : Nat.gcd R.natAbs B.natAbs = Nat.gcd T.natAbs B.natAbs := by
  refine Nat.dvd_antisymm (Nat.dvd_gcd ?_ (Nat.gcd_dvd_right _ _)) (Nat.dvd_gcd ?_ (Nat.gcd_dvd_right _ _))
  · have h1 := gcd_dvd_l R B
    have h2 := gcd_dvd_r R B
    refine Int.ofNat_dvd_left.mp ?_
    rcases e with e | e
    · rw [show T = R - B * k by omega]
      exact Int.dvd_sub h1 (Int.dvd_mul_of_dvd_left h2)
    · rw [show T = B * k - R by omega]
      exact Int.dvd_sub (Int.dvd_mul_of_dvd_left h2) h1
  · have h1 := gcd_dvd_l T B
    have h2 := gcd_dvd_r T B
    refine Int.ofNat_dvd_left.mp ?_
    rcases e with e | e
    · rw [e]; exact Int.dvd_add h1 (Int.dvd_mul_of_dvd_left h2)
    · rw [e]; exact Int.dvd_add (Int.dvd_neg.mpr h1) (Int.dvd_mul_of_dvd_left h2)
theorem place_frac {s a v n m : Int} (hs : 1 ≤ s) (hm : 1 ≤ m) : placeN s a v n m = fracD (foldI s (lineA v a * m + lineV v * n) m) m ∧ placeN s a v n m = fracD (foldI s (a * m + v * n) m) m := by
  have first : placeN s a v n m = fracD (foldI s (lineA v a * m + lineV v * n) m) m := by
    have g0 := gcd_pos (t := lineA v a * m + lineV v * n) hm
    obtain ⟨-, hB, hc⟩ := low_facts (t := lineA v a * m + lineV v * n) hm
    have e1 := Int.ediv_mul_cancel (gcd_dvd_l (lineA v a * m + lineV v * n) m)
    have e2 := Int.ediv_mul_cancel (gcd_dvd_r (lineA v a * m + lineV v * n) m)
    have q : placeN s a v n m = foldD s ((lineA v a * m + lineV v * n) / (Nat.gcd (lineA v a * m + lineV v * n).natAbs m.natAbs : Nat)) (m / (Nat.gcd (lineA v a * m + lineV v * n).natAbs m.natAbs : Nat)) := rfl
    rw [q]
    generalize lineA v a * m + lineV v * n = T at *
    generalize ((Nat.gcd T.natAbs m.natAbs : Nat) : Int) = g at *
    generalize hT : T / g = t0 at *
    generalize hb : m / g = B at *
    obtain ⟨R, k, eR, lR, cR⟩ := fold_is (T := t0) hs hB
    rw [eR]
    refine (low_unique hm hB (by rw [gcd_lin lR, hc]) ?_).symm
    have em : T % (2 * s * m) = g * (t0 % (2 * s * B)) := by
      rw [← e1, ← e2, Int.mul_comm t0 g, show 2 * s * (B * g) = g * (2 * s * B) by simp only [Int.mul_assoc, Int.mul_comm, Int.mul_left_comm]]
      exact Int.mul_emod_mul_of_pos _ _ g0
    unfold foldI
    rw [em]
    have es : s * m = g * (s * B) := by rw [← e2]; simp only [Int.mul_assoc, Int.mul_comm, Int.mul_left_comm]
    have es2 : 2 * s * m = g * (2 * s * B) := by rw [← e2]; simp only [Int.mul_assoc, Int.mul_comm, Int.mul_left_comm]
    rw [es, es2]
    generalize t0 % (2 * s * B) = r at *
    rcases cR with ⟨rfl, h⟩ | ⟨rfl, h⟩
    · rw [if_pos (Int.mul_le_mul_of_nonneg_left h (by omega)), ← e2]
      simp only [Int.mul_assoc, Int.mul_comm, Int.mul_left_comm]
    · have : g * (s * B) < g * r := Int.mul_lt_mul_of_pos_left h g0
      rw [if_neg (by omega), ← e2, ← Int.mul_sub]
      simp only [Int.mul_assoc, Int.mul_comm, Int.mul_left_comm]
  refine ⟨first, ?_⟩
  rw [first]
  congr 1
  by_cases hv : v < 0
  · have e : lineA v a * m + lineV v * n = -(a * m + v * n) := by
      unfold lineA lineV
      rw [if_pos hv, if_pos hv, Int.neg_mul, Int.neg_mul]; omega
    rw [e]
    exact fold_eq hs hm (.inr rfl)
  · have e : lineA v a * m + lineV v * n = a * m + v * n := by
      unfold lineA lineV
      rw [if_neg hv, if_neg hv]
    rw [e]
structure V (a b x y p q n m : Int) : Prop where
  a1 : 1 ≤ a
  b1 : 1 ≤ b
  x0 : 0 ≤ x
  x1 : x ≤ a
  y0 : 0 ≤ y
  y1 : y ≤ b
  w : p ≠ 0 ∨ q ≠ 0
  m1 : 1 ≤ m
  g : Nat.gcd n.natAbs m.natAbs = 1
  za : sz 300 a
  zb : sz 300 b
  zx : sz 300 x
  zy : sz 300 y
  zp : sz 300 p
  zq : sz 300 q
  zn : sz 300 n
  zm : sz 300 m
section
variable {a b x y p q n m : Int}
theorem V.tab (v : V a b x y p q n m) : isTab (.tuple [.int a, .int b]) = true := by simp [isTab, v.a1, v.b1]
theorem V.any (v : V a b x y p q n m) : isAny (.tuple [.int x, .int y, .int p, .int q]) = true := by
  simp only [isAny, decide_eq_true v.x0, decide_eq_true v.y0, Bool.true_and, Bool.or_eq_true, Bool.not_eq_true', decide_eq_false_iff_not]
  exact v.w
theorem V.shot (v : V a b x y p q n m) : isShot (.tuple [.int a, .int b]) (.tuple [.int x, .int y, .int p, .int q]) = true := by
  simp only [isShot, decide_eq_true v.x0, decide_eq_true v.y0, decide_eq_true v.x1, decide_eq_true v.y1, Bool.true_and, Bool.and_true, Bool.or_eq_true, Bool.not_eq_true', decide_eq_false_iff_not]
  exact v.w
theorem V.frac (v : V a b x y p q n m) : isFrac (.tuple [.int n, .int m]) = true := by simp [isFrac, v.m1, v.g]
theorem V.place (v : V a b x y p q n m) {Q : S → Prop} {E : String → Prop} (h : Q (.va (.tuple [placeN a x p n m, placeN b y q n m]))) : D_place_at [.tuple [.int a, .int b], .tuple [.int x, .int y, .int p, .int q], .tuple [.int n, .int m]] Q E := by
  have u : ∀ {z : Int}, sz 300 z → sz 1000 z := fun h => sz_mono h (by decide)
  exact ⟨_, _, _, rfl, fun z => absurd v.tab (by rw [z]; decide), fun _ z => absurd v.shot (by rw [z]; decide), fun _ _ z => absurd v.frac (by rw [z]; decide), fun _ _ _ => ⟨⟨u v.za, u v.zb⟩, ⟨u v.zx, u v.zy, u v.zp, u v.zq⟩, ⟨u v.zn, u v.zm⟩, h⟩⟩
theorem V.way (v : V a b x y p q n m) {Q : S → Prop} {E : String → Prop} (h : Q (.va (.tuple [.int (wayN a x p n m), .int (wayN b y q n m)]))) : D_way_at [.tuple [.int a, .int b], .tuple [.int x, .int y, .int p, .int q], .tuple [.int n, .int m]] Q E := by
  have u : ∀ {z : Int}, sz 300 z → sz 1000 z := fun h => sz_mono h (by decide)
  exact ⟨_, _, _, rfl, fun z => absurd v.tab (by rw [z]; decide), fun _ z => absurd v.shot (by rw [z]; decide), fun _ _ z => absurd v.frac (by rw [z]; decide), fun _ _ _ => ⟨⟨u v.za, u v.zb⟩, ⟨u v.zx, u v.zy, u v.zp, u v.zq⟩, ⟨u v.zn, u v.zm⟩, h⟩⟩
theorem sd_place {s a v n m : Int} (hs : 1 ≤ s) (hm : 1 ≤ m) : sd 2 (placeN s a v n m) = true := by
  obtain ⟨R, k, e, _⟩ := fold_is (T := (lineA v a * m + lineV v * n) / (Nat.gcd (lineA v a * m + lineV v * n).natAbs m.natAbs : Nat)) hs (div_gcd_pos (t := lineA v a * m + lineV v * n) hm)
  have e2 : placeN s a v n m = _ := e
  rw [e2]
  rfl
theorem sd_two {j : Nat} {d e : PyData} (h1 : sd j d = true) (h2 : sd j e = true) : sd (j + 1) (.tuple [d, e]) = true := by simp [sd, h1, h2]
theorem sd_twoL {j : Nat} {d e : PyData} (h1 : sd j d = true) (h2 : sd j e = true) : sd (j + 1) (.list [d, e]) = true := by simp [sd, h1, h2]
theorem same_of {j : Nat} {d e : PyData} {Q : S → Prop} {E : String → Prop} (he : d = e) (h : sd j d = true) (q : Q (.va (.bool true))) : D__law_same j [d, e] Q E := ⟨d, by rw [he], h, q⟩
theorem sd_mono : ∀ {j k : Nat} {d : PyData}, j ≤ k → sd j d = true → sd k d = true
  | 0, _, _, _, h => by cases h
  | j + 1, 0, _, hk, _ => by omega
  | j + 1, k + 1, .list xs, hk, h => by
    simp only [sd, Bool.and_eq_true, List.all_eq_true] at h ⊢
    exact ⟨h.1, fun x hx => sd_mono (by omega) (h.2 x hx)⟩
  | j + 1, k + 1, .tuple xs, hk, h => by
    simp only [sd, Bool.and_eq_true, List.all_eq_true] at h ⊢
    exact ⟨h.1, fun x hx => sd_mono (by omega) (h.2 x hx)⟩
  | j + 1, k + 1, .int i, _, _ => rfl
  | j + 1, k + 1, .none, _, _ => rfl
  | j + 1, k + 1, .bool b, _, _ => rfl
  | j + 1, k + 1, .str z, _, h => by simp [sd] at h
  | j + 1, k + 1, .dict kvs, _, h => by simp [sd] at h
end
theorem V.at (v : V a b x y p q n m) {Q : S → Prop} {E : String → Prop} (h : Q (.va (shotN a b x y p q n m))) : D_shot_at [.tuple [.int a, .int b], .tuple [.int x, .int y, .int p, .int q], .tuple [.int n, .int m]] Q E := by
  have u : ∀ {z : Int}, sz 300 z → sz 1000 z := fun h => sz_mono h (by decide)
  exact ⟨_, _, _, rfl, fun z => absurd v.tab (by rw [z]; decide), fun _ z => absurd v.shot (by rw [z]; decide), fun _ _ z => absurd v.frac (by rw [z]; decide), fun _ _ _ => ⟨⟨u v.za, u v.zb⟩, ⟨u v.zx, u v.zy, u v.zp, u v.zq⟩, ⟨u v.zn, u v.zm⟩, h⟩⟩
theorem opNe_ll {a b c e : Int} : opNe (.list [.int a, .int b]) (.list [.int c, .int e]) = some (.bool (!(decide (a = c) && decide (b = e)))) := by
  unfold opNe SeqAt.shaped
  simp [PyData.canLay0, PyData.canLayAll0, PyData.depth, PyData.depthAll, PyData.eqv, PyData.eqvAll]
  by_cases h : a = c <;> by_cases h2 : b = e <;> simp [h, h2]
def D__law_right : PSpec := fun ds Q _ => ∃ a b x y p q n m, ds = [.tuple [.int a, .int b], .tuple [.int x, .int y, .int p, .int q], .tuple [.int n, .int m]] ∧ V a b x y p q n m ∧ Q (.va (.bool true))
theorem len__law_right : ∀ ds Q E, D__law_right ds Q E → ds.length = 3 := by
  rintro _ Q E ⟨a, b, x, y, p, q, n, m, rfl, _⟩
  rfl
theorem abs_way (s a v n m : Int) : (if wayN s a v n m < 0 then -wayN s a v n m else wayN s a v n m) = if v < 0 then -v else v := by
  have e : wayN s a v n m = lineV v ∨ wayN s a v n m = -lineV v := by unfold wayN wayL; split <;> simp
  have l : lineV v = if v < 0 then -v else v := rfl
  generalize wayN s a v n m = w at *
  rw [l] at e
  by_cases h : v < 0
  · rw [if_pos h] at e ⊢; split <;> omega
  · rw [if_neg h] at e ⊢; split <;> omega
def absK : PyData → Option PyData
  | .int i => some (.int (if i < 0 then -i else i))
  | _ => none
theorem rd__law_right : ∀ ds Q E, D__law_right ds Q E → m__law_right (fun c _ => E c) (endP Q) (slots0 11 ds) := by
  rintro _ Q E ⟨a, b, x, y, p, q', n, m, rfl, v, q⟩
  unfold m__law_right
  obtain ⟨r1, c1, e1⟩ : ∃ r c, fracD (foldI a (x * m + p * n) m) m = .tuple [.int r, .int c] := ⟨_, _, rfl⟩
  obtain ⟨r2, c2, e2⟩ : ∃ r c, fracD (foldI b (y * m + q' * n) m) m = .tuple [.int r, .int c] := ⟨_, _, rfl⟩
  have p1 : placeN a x p n m = .tuple [.int r1, .int c1] := (place_frac v.a1 v.m1).2.trans e1
  have p2 : placeN b y q' n m = .tuple [.int r2, .int c2] := (place_frac v.b1 v.m1).2.trans e2
  have u : ∀ {z : Int}, sz 300 z → sz 1000 z := fun h => sz_mono h (by decide)
  have sh : shotN a b x y p q' n m = if c1 = 1 ∧ c2 = 1 then .tuple [.int r1, .int r2, .int (wayN a x p n m), .int (wayN b y q' n m)] else .none := by
    unfold shotN
    rw [p1, p2]
    rfl
  refine seq_run (fun s => s = [.va (.tuple [.int a, .int b]), .va (.tuple [.int x, .int y, .int p, .int q']), .va (.tuple [.int n, .int m]), .va (.int n), .va (.int m), .no, .no, .no, .no, .no, .no]) (fun N h => ?_) ?_
  · simp only [DL.mSeq, DL.mAsg, DL.mAsgR, DL.mAsgM, DL.mrs, DL.ssets, DL.mIf, DL.mRet, DL.mRetN, DL.mrOf, DL.mrLst, DL.mrCat, DL.mrCall, DL.mDrop, DL.mNext, DL.mBreak, DL.mCont, DL.mC, DL.mVar, DL.mOp2, DL.mOp1, DL.mAnd, DL.mOr, DL.mNot, DL.mIfE, DL.mChain, DL.mNil, DL.mCons, DL.mTup, DL.mLst, DL.mCallB, DL.mDict0, DL.mPart, DL.mNoPart, DL.mSl, DL.mCall, DL.mCallK, DL.mCallW, DL.mLenScr, DL.mWell, DL.mT, DL.mTAnd, DL.mTOr, DL.mTNot, DL.mTYes, DL.mgName, DL.mgNil_n, DL.mgCons_c, DL.mgTup_t, DL.mgTup_l, DL.miSeq, DL.miRng1, DL.miRng2, DL.mRaise, DL.mApp, DL.mFor, DL.mLc, DL.mrLc, DL.sget, DL.sset, DL.slots0, DL.slotsW, DL.endP, DL.endW, DL.endL, DL.wF, DL.fz_va, DL.fz_own, List.length_cons, List.length_nil, List.map_cons, List.map_nil, List.replicate_succ, List.replicate_zero, Nat.reduceAdd, Nat.reduceSub, Nat.reduceLeDiff, List.cons_append, List.nil_append, Nat.zero_add, Nat.add_zero, Nat.sub_self, Option.some.injEq, PyData.bool.injEq, PyData.int.injEq, PyData.tuple.injEq, PyData.list.injEq, PyData.str.injEq, List.cons.injEq, DL.S.va.injEq, DL.S.own.injEq, DL.S.well.injEq, DL.S.scr.injEq, and_true, true_and, exists_eq_left', exists_eq_left, exists_eq_right, exists_eq_right', exists_and_left, exists_and_right, exists_eq, exists_eq', reduceCtorEq, false_and, and_false, exists_const, if_true, if_false, Bool.false_eq_true, reduceIte, Bool.not_true, Bool.not_false, DL.bIsi, List.any_cons, List.any_nil, Bool.or_false, Bool.or_true, Bool.false_or, Bool.true_or, DL.isK, DL.opAdd_i, DL.opSub_i, DL.opLt_i, DL.opLe_i, DL.opGt_i, DL.opGe_i, DL.opEq_int, DL.opNe_int, DL.opEq_b, DL.opNe_b, DL.opEq_nn, beq_self_eq_true, DL.opEq_str, DL.opNe_str, DL.opIsN_n, DL.opNotN_n, DL.isN, DL.opIsB_b, DL.opNotB_b, DL.opNeg_i, DL.bAbs_i, DL.bMax_i, DL.bMin_i, DL.bInt_i, DL.bGcd_i, DL.bLen_l, DL.bLen_t, DL.opAdd_t, DL.opAdd_l, DL.opIx_l, DL.opIx_t, DL.opSl_t, DL.opSl_l, DL.opRev_t, DL.opRev_l, DL.bList_l, DL.bList_t, DL.bTup_l, DL.bTup_t, DL.atI0, DL.atI1, DL.atI2, DL.atI3, DL.items_t, DL.items_l]
    exact h _ rfl
  rintro _ rfl
  refine seq_run (fun s => s = [.va (.tuple [.int a, .int b]), .va (.tuple [.int x, .int y, .int p, .int q']), .va (.tuple [.int n, .int m]), .va (.int n), .va (.int m), .va (.tuple [.tuple [.int r1, .int c1], .tuple [.int r2, .int c2]]), .no, .no, .no, .no, .no]) (fun N h => ?_) ?_
  · simp only [DL.mSeq, DL.mAsg, DL.mAsgR, DL.mAsgM, DL.mrs, DL.ssets, DL.mIf, DL.mRet, DL.mRetN, DL.mrOf, DL.mrLst, DL.mrCat, DL.mrCall, DL.mDrop, DL.mNext, DL.mBreak, DL.mCont, DL.mC, DL.mVar, DL.mOp2, DL.mOp1, DL.mAnd, DL.mOr, DL.mNot, DL.mIfE, DL.mChain, DL.mNil, DL.mCons, DL.mTup, DL.mLst, DL.mCallB, DL.mDict0, DL.mPart, DL.mNoPart, DL.mSl, DL.mCall, DL.mCallK, DL.mCallW, DL.mLenScr, DL.mWell, DL.mT, DL.mTAnd, DL.mTOr, DL.mTNot, DL.mTYes, DL.mgName, DL.mgNil_n, DL.mgCons_c, DL.mgTup_t, DL.mgTup_l, DL.miSeq, DL.miRng1, DL.miRng2, DL.mRaise, DL.mApp, DL.mFor, DL.mLc, DL.mrLc, DL.sget, DL.sset, DL.slots0, DL.slotsW, DL.endP, DL.endW, DL.endL, DL.wF, DL.fz_va, DL.fz_own, List.length_cons, List.length_nil, List.map_cons, List.map_nil, List.replicate_succ, List.replicate_zero, Nat.reduceAdd, Nat.reduceSub, Nat.reduceLeDiff, List.cons_append, List.nil_append, Nat.zero_add, Nat.add_zero, Nat.sub_self, Option.some.injEq, PyData.bool.injEq, PyData.int.injEq, PyData.tuple.injEq, PyData.list.injEq, PyData.str.injEq, List.cons.injEq, DL.S.va.injEq, DL.S.own.injEq, DL.S.well.injEq, DL.S.scr.injEq, and_true, true_and, exists_eq_left', exists_eq_left, exists_eq_right, exists_eq_right', exists_and_left, exists_and_right, exists_eq, exists_eq', reduceCtorEq, false_and, and_false, exists_const, if_true, if_false, Bool.false_eq_true, reduceIte, Bool.not_true, Bool.not_false, DL.bIsi, List.any_cons, List.any_nil, Bool.or_false, Bool.or_true, Bool.false_or, Bool.true_or, DL.isK, DL.opAdd_i, DL.opSub_i, DL.opLt_i, DL.opLe_i, DL.opGt_i, DL.opGe_i, DL.opEq_int, DL.opNe_int, DL.opEq_b, DL.opNe_b, DL.opEq_nn, beq_self_eq_true, DL.opEq_str, DL.opNe_str, DL.opIsN_n, DL.opNotN_n, DL.isN, DL.opIsB_b, DL.opNotB_b, DL.opNeg_i, DL.bAbs_i, DL.bMax_i, DL.bMin_i, DL.bInt_i, DL.bGcd_i, DL.bLen_l, DL.bLen_t, DL.opAdd_t, DL.opAdd_l, DL.opIx_l, DL.opIx_t, DL.opSl_t, DL.opSl_l, DL.opRev_t, DL.opRev_l, DL.bList_l, DL.bList_t, DL.bTup_l, DL.bTup_t, DL.atI0, DL.atI1, DL.atI2, DL.atI3, DL.items_t, DL.items_l]
    refine ⟨a, b, x, y, p, q', n, m, rfl, v.a1, v.b1, v.m1, u v.za, u v.zb, u v.zx, u v.zy, u v.zp, u v.zq, u v.zn, u v.zm, _, rfl, ?_⟩
    rw [e1, e2]
    exact h _ rfl
  rintro _ rfl
  refine seq_run (fun s => s = [.va (.tuple [.int a, .int b]), .va (.tuple [.int x, .int y, .int p, .int q']), .va (.tuple [.int n, .int m]), .va (.int n), .va (.int m), .va (.tuple [.tuple [.int r1, .int c1], .tuple [.int r2, .int c2]]), .va (.tuple [.tuple [.int r1, .int c1], .tuple [.int r2, .int c2]]), .no, .no, .no, .no]) (fun N h => ?_) ?_
  · simp only [DL.mSeq, DL.mAsg, DL.mAsgR, DL.mAsgM, DL.mrs, DL.ssets, DL.mIf, DL.mRet, DL.mRetN, DL.mrOf, DL.mrLst, DL.mrCat, DL.mrCall, DL.mDrop, DL.mNext, DL.mBreak, DL.mCont, DL.mC, DL.mVar, DL.mOp2, DL.mOp1, DL.mAnd, DL.mOr, DL.mNot, DL.mIfE, DL.mChain, DL.mNil, DL.mCons, DL.mTup, DL.mLst, DL.mCallB, DL.mDict0, DL.mPart, DL.mNoPart, DL.mSl, DL.mCall, DL.mCallK, DL.mCallW, DL.mLenScr, DL.mWell, DL.mT, DL.mTAnd, DL.mTOr, DL.mTNot, DL.mTYes, DL.mgName, DL.mgNil_n, DL.mgCons_c, DL.mgTup_t, DL.mgTup_l, DL.miSeq, DL.miRng1, DL.miRng2, DL.mRaise, DL.mApp, DL.mFor, DL.mLc, DL.mrLc, DL.sget, DL.sset, DL.slots0, DL.slotsW, DL.endP, DL.endW, DL.endL, DL.wF, DL.fz_va, DL.fz_own, List.length_cons, List.length_nil, List.map_cons, List.map_nil, List.replicate_succ, List.replicate_zero, Nat.reduceAdd, Nat.reduceSub, Nat.reduceLeDiff, List.cons_append, List.nil_append, Nat.zero_add, Nat.add_zero, Nat.sub_self, Option.some.injEq, PyData.bool.injEq, PyData.int.injEq, PyData.tuple.injEq, PyData.list.injEq, PyData.str.injEq, List.cons.injEq, DL.S.va.injEq, DL.S.own.injEq, DL.S.well.injEq, DL.S.scr.injEq, and_true, true_and, exists_eq_left', exists_eq_left, exists_eq_right, exists_eq_right', exists_and_left, exists_and_right, exists_eq, exists_eq', reduceCtorEq, false_and, and_false, exists_const, if_true, if_false, Bool.false_eq_true, reduceIte, Bool.not_true, Bool.not_false, DL.bIsi, List.any_cons, List.any_nil, Bool.or_false, Bool.or_true, Bool.false_or, Bool.true_or, DL.isK, DL.opAdd_i, DL.opSub_i, DL.opLt_i, DL.opLe_i, DL.opGt_i, DL.opGe_i, DL.opEq_int, DL.opNe_int, DL.opEq_b, DL.opNe_b, DL.opEq_nn, beq_self_eq_true, DL.opEq_str, DL.opNe_str, DL.opIsN_n, DL.opNotN_n, DL.isN, DL.opIsB_b, DL.opNotB_b, DL.opNeg_i, DL.bAbs_i, DL.bMax_i, DL.bMin_i, DL.bInt_i, DL.bGcd_i, DL.bLen_l, DL.bLen_t, DL.opAdd_t, DL.opAdd_l, DL.opIx_l, DL.opIx_t, DL.opSl_t, DL.opSl_l, DL.opRev_t, DL.opRev_l, DL.bList_l, DL.bList_t, DL.bTup_l, DL.bTup_t, DL.atI0, DL.atI1, DL.atI2, DL.atI3, DL.items_t, DL.items_l]
    refine v.place ⟨_, rfl, ?_⟩
    rw [p1, p2]
    exact h _ rfl
  rintro _ rfl
  refine seq_run (fun s => s = [.va (.tuple [.int a, .int b]), .va (.tuple [.int x, .int y, .int p, .int q']), .va (.tuple [.int n, .int m]), .va (.int n), .va (.int m), .va (.tuple [.tuple [.int r1, .int c1], .tuple [.int r2, .int c2]]), .va (.tuple [.tuple [.int r1, .int c1], .tuple [.int r2, .int c2]]), .no, .no, .no, .no]) (fun N h => ?_) ?_
  · simp only [DL.mSeq, DL.mAsg, DL.mAsgR, DL.mAsgM, DL.mrs, DL.ssets, DL.mIf, DL.mRet, DL.mRetN, DL.mrOf, DL.mrLst, DL.mrCat, DL.mrCall, DL.mDrop, DL.mNext, DL.mBreak, DL.mCont, DL.mC, DL.mVar, DL.mOp2, DL.mOp1, DL.mAnd, DL.mOr, DL.mNot, DL.mIfE, DL.mChain, DL.mNil, DL.mCons, DL.mTup, DL.mLst, DL.mCallB, DL.mDict0, DL.mPart, DL.mNoPart, DL.mSl, DL.mCall, DL.mCallK, DL.mCallW, DL.mLenScr, DL.mWell, DL.mT, DL.mTAnd, DL.mTOr, DL.mTNot, DL.mTYes, DL.mgName, DL.mgNil_n, DL.mgCons_c, DL.mgTup_t, DL.mgTup_l, DL.miSeq, DL.miRng1, DL.miRng2, DL.mRaise, DL.mApp, DL.mFor, DL.mLc, DL.mrLc, DL.sget, DL.sset, DL.slots0, DL.slotsW, DL.endP, DL.endW, DL.endL, DL.wF, DL.fz_va, DL.fz_own, List.length_cons, List.length_nil, List.map_cons, List.map_nil, List.replicate_succ, List.replicate_zero, Nat.reduceAdd, Nat.reduceSub, Nat.reduceLeDiff, List.cons_append, List.nil_append, Nat.zero_add, Nat.add_zero, Nat.sub_self, Option.some.injEq, PyData.bool.injEq, PyData.int.injEq, PyData.tuple.injEq, PyData.list.injEq, PyData.str.injEq, List.cons.injEq, DL.S.va.injEq, DL.S.own.injEq, DL.S.well.injEq, DL.S.scr.injEq, and_true, true_and, exists_eq_left', exists_eq_left, exists_eq_right, exists_eq_right', exists_and_left, exists_and_right, exists_eq, exists_eq', reduceCtorEq, false_and, and_false, exists_const, if_true, if_false, Bool.false_eq_true, reduceIte, Bool.not_true, Bool.not_false, DL.bIsi, List.any_cons, List.any_nil, Bool.or_false, Bool.or_true, Bool.false_or, Bool.true_or, DL.isK, DL.opAdd_i, DL.opSub_i, DL.opLt_i, DL.opLe_i, DL.opGt_i, DL.opGe_i, DL.opEq_int, DL.opNe_int, DL.opEq_b, DL.opNe_b, DL.opEq_nn, beq_self_eq_true, DL.opEq_str, DL.opNe_str, DL.opIsN_n, DL.opNotN_n, DL.isN, DL.opIsB_b, DL.opNotB_b, DL.opNeg_i, DL.bAbs_i, DL.bMax_i, DL.bMin_i, DL.bInt_i, DL.bGcd_i, DL.bLen_l, DL.bLen_t, DL.opAdd_t, DL.opAdd_l, DL.opIx_l, DL.opIx_t, DL.opSl_t, DL.opSl_l, DL.opRev_t, DL.opRev_l, DL.bList_l, DL.bList_t, DL.bTup_l, DL.bTup_t, DL.atI0, DL.atI1, DL.atI2, DL.atI3, DL.items_t, DL.items_l]
    refine v.place ⟨_, rfl, ?_⟩
    rw [p1, p2]
    refine ⟨_, rfl, rfl, _, rfl, _, rfl, ?_⟩
    rw [if_neg (by decide)]
    exact h _ rfl
  rintro _ rfl
  refine seq_run (fun s => s = [.va (.tuple [.int a, .int b]), .va (.tuple [.int x, .int y, .int p, .int q']), .va (.tuple [.int n, .int m]), .va (.int n), .va (.int m), .va (.tuple [.tuple [.int r1, .int c1], .tuple [.int r2, .int c2]]), .va (.tuple [.tuple [.int r1, .int c1], .tuple [.int r2, .int c2]]), .va (.tuple [.int (wayN a x p n m), .int (wayN b y q' n m)]), .no, .no, .no]) (fun N h => ?_) ?_
  · simp only [DL.mSeq, DL.mAsg, DL.mAsgR, DL.mAsgM, DL.mrs, DL.ssets, DL.mIf, DL.mRet, DL.mRetN, DL.mrOf, DL.mrLst, DL.mrCat, DL.mrCall, DL.mDrop, DL.mNext, DL.mBreak, DL.mCont, DL.mC, DL.mVar, DL.mOp2, DL.mOp1, DL.mAnd, DL.mOr, DL.mNot, DL.mIfE, DL.mChain, DL.mNil, DL.mCons, DL.mTup, DL.mLst, DL.mCallB, DL.mDict0, DL.mPart, DL.mNoPart, DL.mSl, DL.mCall, DL.mCallK, DL.mCallW, DL.mLenScr, DL.mWell, DL.mT, DL.mTAnd, DL.mTOr, DL.mTNot, DL.mTYes, DL.mgName, DL.mgNil_n, DL.mgCons_c, DL.mgTup_t, DL.mgTup_l, DL.miSeq, DL.miRng1, DL.miRng2, DL.mRaise, DL.mApp, DL.mFor, DL.mLc, DL.mrLc, DL.sget, DL.sset, DL.slots0, DL.slotsW, DL.endP, DL.endW, DL.endL, DL.wF, DL.fz_va, DL.fz_own, List.length_cons, List.length_nil, List.map_cons, List.map_nil, List.replicate_succ, List.replicate_zero, Nat.reduceAdd, Nat.reduceSub, Nat.reduceLeDiff, List.cons_append, List.nil_append, Nat.zero_add, Nat.add_zero, Nat.sub_self, Option.some.injEq, PyData.bool.injEq, PyData.int.injEq, PyData.tuple.injEq, PyData.list.injEq, PyData.str.injEq, List.cons.injEq, DL.S.va.injEq, DL.S.own.injEq, DL.S.well.injEq, DL.S.scr.injEq, and_true, true_and, exists_eq_left', exists_eq_left, exists_eq_right, exists_eq_right', exists_and_left, exists_and_right, exists_eq, exists_eq', reduceCtorEq, false_and, and_false, exists_const, if_true, if_false, Bool.false_eq_true, reduceIte, Bool.not_true, Bool.not_false, DL.bIsi, List.any_cons, List.any_nil, Bool.or_false, Bool.or_true, Bool.false_or, Bool.true_or, DL.isK, DL.opAdd_i, DL.opSub_i, DL.opLt_i, DL.opLe_i, DL.opGt_i, DL.opGe_i, DL.opEq_int, DL.opNe_int, DL.opEq_b, DL.opNe_b, DL.opEq_nn, beq_self_eq_true, DL.opEq_str, DL.opNe_str, DL.opIsN_n, DL.opNotN_n, DL.isN, DL.opIsB_b, DL.opNotB_b, DL.opNeg_i, DL.bAbs_i, DL.bMax_i, DL.bMin_i, DL.bInt_i, DL.bGcd_i, DL.bLen_l, DL.bLen_t, DL.opAdd_t, DL.opAdd_l, DL.opIx_l, DL.opIx_t, DL.opSl_t, DL.opSl_l, DL.opRev_t, DL.opRev_l, DL.bList_l, DL.bList_t, DL.bTup_l, DL.bTup_t, DL.atI0, DL.atI1, DL.atI2, DL.atI3, DL.items_t, DL.items_l]
    exact v.way ⟨_, rfl, h _ rfl⟩
  rintro _ rfl
  refine seq_run (fun s => s = [.va (.tuple [.int a, .int b]), .va (.tuple [.int x, .int y, .int p, .int q']), .va (.tuple [.int n, .int m]), .va (.int n), .va (.int m), .va (.tuple [.tuple [.int r1, .int c1], .tuple [.int r2, .int c2]]), .va (.tuple [.tuple [.int r1, .int c1], .tuple [.int r2, .int c2]]), .va (.tuple [.int (wayN a x p n m), .int (wayN b y q' n m)]), .no, .no, .no]) (fun N h => ?_) ?_
  · simp only [DL.mSeq, DL.mAsg, DL.mAsgR, DL.mAsgM, DL.mrs, DL.ssets, DL.mIf, DL.mRet, DL.mRetN, DL.mrOf, DL.mrLst, DL.mrCat, DL.mrCall, DL.mDrop, DL.mNext, DL.mBreak, DL.mCont, DL.mC, DL.mVar, DL.mOp2, DL.mOp1, DL.mAnd, DL.mOr, DL.mNot, DL.mIfE, DL.mChain, DL.mNil, DL.mCons, DL.mTup, DL.mLst, DL.mCallB, DL.mDict0, DL.mPart, DL.mNoPart, DL.mSl, DL.mCall, DL.mCallK, DL.mCallW, DL.mLenScr, DL.mWell, DL.mT, DL.mTAnd, DL.mTOr, DL.mTNot, DL.mTYes, DL.mgName, DL.mgNil_n, DL.mgCons_c, DL.mgTup_t, DL.mgTup_l, DL.miSeq, DL.miRng1, DL.miRng2, DL.mRaise, DL.mApp, DL.mFor, DL.mLc, DL.mrLc, DL.sget, DL.sset, DL.slots0, DL.slotsW, DL.endP, DL.endW, DL.endL, DL.wF, DL.fz_va, DL.fz_own, List.length_cons, List.length_nil, List.map_cons, List.map_nil, List.replicate_succ, List.replicate_zero, Nat.reduceAdd, Nat.reduceSub, Nat.reduceLeDiff, List.cons_append, List.nil_append, Nat.zero_add, Nat.add_zero, Nat.sub_self, Option.some.injEq, PyData.bool.injEq, PyData.int.injEq, PyData.tuple.injEq, PyData.list.injEq, PyData.str.injEq, List.cons.injEq, DL.S.va.injEq, DL.S.own.injEq, DL.S.well.injEq, DL.S.scr.injEq, and_true, true_and, exists_eq_left', exists_eq_left, exists_eq_right, exists_eq_right', exists_and_left, exists_and_right, exists_eq, exists_eq', reduceCtorEq, false_and, and_false, exists_const, if_true, if_false, Bool.false_eq_true, reduceIte, Bool.not_true, Bool.not_false, DL.bIsi, List.any_cons, List.any_nil, Bool.or_false, Bool.or_true, Bool.false_or, Bool.true_or, DL.isK, DL.opAdd_i, DL.opSub_i, DL.opLt_i, DL.opLe_i, DL.opGt_i, DL.opGe_i, DL.opEq_int, DL.opNe_int, DL.opEq_b, DL.opNe_b, DL.opEq_nn, beq_self_eq_true, DL.opEq_str, DL.opNe_str, DL.opIsN_n, DL.opNotN_n, DL.isN, DL.opIsB_b, DL.opNotB_b, DL.opNeg_i, DL.bAbs_i, DL.bMax_i, DL.bMin_i, DL.bInt_i, DL.bGcd_i, DL.bLen_l, DL.bLen_t, DL.opAdd_t, DL.opAdd_l, DL.opIx_l, DL.opIx_t, DL.opSl_t, DL.opSl_l, DL.opRev_t, DL.opRev_l, DL.bList_l, DL.bList_t, DL.bTup_l, DL.bTup_t, DL.atI0, DL.atI1, DL.atI2, DL.atI3, DL.items_t, DL.items_l]
    refine v.way ⟨_, rfl, ?_⟩
    refine ⟨_, rfl, rfl, _, rfl, _, rfl, ?_⟩
    rw [if_neg (by decide)]
    exact h _ rfl
  rintro _ rfl
  refine seq_run (fun s => s = [.va (.tuple [.int a, .int b]), .va (.tuple [.int x, .int y, .int p, .int q']), .va (.tuple [.int n, .int m]), .va (.int n), .va (.int m), .va (.tuple [.tuple [.int r1, .int c1], .tuple [.int r2, .int c2]]), .va (.tuple [.tuple [.int r1, .int c1], .tuple [.int r2, .int c2]]), .va (.tuple [.int (wayN a x p n m), .int (wayN b y q' n m)]), .no, .no, .no]) (fun N h => ?_) ?_
  · simp only [DL.mSeq, DL.mAsg, DL.mAsgR, DL.mAsgM, DL.mrs, DL.ssets, DL.mIf, DL.mRet, DL.mRetN, DL.mrOf, DL.mrLst, DL.mrCat, DL.mrCall, DL.mDrop, DL.mNext, DL.mBreak, DL.mCont, DL.mC, DL.mVar, DL.mOp2, DL.mOp1, DL.mAnd, DL.mOr, DL.mNot, DL.mIfE, DL.mChain, DL.mNil, DL.mCons, DL.mTup, DL.mLst, DL.mCallB, DL.mDict0, DL.mPart, DL.mNoPart, DL.mSl, DL.mCall, DL.mCallK, DL.mCallW, DL.mLenScr, DL.mWell, DL.mT, DL.mTAnd, DL.mTOr, DL.mTNot, DL.mTYes, DL.mgName, DL.mgNil_n, DL.mgCons_c, DL.mgTup_t, DL.mgTup_l, DL.miSeq, DL.miRng1, DL.miRng2, DL.mRaise, DL.mApp, DL.mFor, DL.mLc, DL.mrLc, DL.sget, DL.sset, DL.slots0, DL.slotsW, DL.endP, DL.endW, DL.endL, DL.wF, DL.fz_va, DL.fz_own, List.length_cons, List.length_nil, List.map_cons, List.map_nil, List.replicate_succ, List.replicate_zero, Nat.reduceAdd, Nat.reduceSub, Nat.reduceLeDiff, List.cons_append, List.nil_append, Nat.zero_add, Nat.add_zero, Nat.sub_self, Option.some.injEq, PyData.bool.injEq, PyData.int.injEq, PyData.tuple.injEq, PyData.list.injEq, PyData.str.injEq, List.cons.injEq, DL.S.va.injEq, DL.S.own.injEq, DL.S.well.injEq, DL.S.scr.injEq, and_true, true_and, exists_eq_left', exists_eq_left, exists_eq_right, exists_eq_right', exists_and_left, exists_and_right, exists_eq, exists_eq', reduceCtorEq, false_and, and_false, exists_const, if_true, if_false, Bool.false_eq_true, reduceIte, Bool.not_true, Bool.not_false, DL.bIsi, List.any_cons, List.any_nil, Bool.or_false, Bool.or_true, Bool.false_or, Bool.true_or, DL.isK, DL.opAdd_i, DL.opSub_i, DL.opLt_i, DL.opLe_i, DL.opGt_i, DL.opGe_i, DL.opEq_int, DL.opNe_int, DL.opEq_b, DL.opNe_b, DL.opEq_nn, beq_self_eq_true, DL.opEq_str, DL.opNe_str, DL.opIsN_n, DL.opNotN_n, DL.isN, DL.opIsB_b, DL.opNotB_b, DL.opNeg_i, DL.bAbs_i, DL.bMax_i, DL.bMin_i, DL.bInt_i, DL.bGcd_i, DL.bLen_l, DL.bLen_t, DL.opAdd_t, DL.opAdd_l, DL.opIx_l, DL.opIx_t, DL.opSl_t, DL.opSl_l, DL.opRev_t, DL.opRev_l, DL.bList_l, DL.bList_t, DL.bTup_l, DL.bTup_t, DL.atI0, DL.atI1, DL.atI2, DL.atI3, DL.items_t, DL.items_l]
    refine ⟨rfl, ?_⟩
    have ab : ∀ (d1 d2 : Int) (S0 S1 S2 S3 S4 S5 S6 S7 S8 S9 : S) (Q' : List PyData → DSt → Prop), (∀ x10, Q' [.int (if d1 < 0 then -d1 else d1), .int (if d2 < 0 then -d2 else d2)] [S0, S1, S2, S3, S4, S5, S6, S7, S8, S9, x10]) → ∀ x10, lcL (mgName 10) mTYes (mCallB bAbs (mCons (mVar 10) mNil)) [10] Q' [.int d1, .int d2] [S0, S1, S2, S3, S4, S5, S6, S7, S8, S9, x10] [] := by
      intro d1 d2 S0 S1 S2 S3 S4 S5 S6 S7 S8 S9 Q' hq x10
      refine lcL_run (fun s => ∃ x10, s = [S0, S1, S2, S3, S4, S5, S6, S7, S8, S9, x10]) absK _ ?_ _ [] ⟨_, rfl⟩ (by simp) ?_
      · rintro d hd s ⟨x10, rfl⟩ Y N hY hN
        simp only [List.mem_cons, List.not_mem_nil, or_false] at hd
        rcases hd with rfl | rfl
        · simp only [swipe]
          simp only [DL.mSeq, DL.mAsg, DL.mAsgR, DL.mAsgM, DL.mrs, DL.ssets, DL.mIf, DL.mRet, DL.mRetN, DL.mrOf, DL.mrLst, DL.mrCat, DL.mrCall, DL.mDrop, DL.mNext, DL.mBreak, DL.mCont, DL.mC, DL.mVar, DL.mOp2, DL.mOp1, DL.mAnd, DL.mOr, DL.mNot, DL.mIfE, DL.mChain, DL.mNil, DL.mCons, DL.mTup, DL.mLst, DL.mCallB, DL.mDict0, DL.mPart, DL.mNoPart, DL.mSl, DL.mCall, DL.mCallK, DL.mCallW, DL.mLenScr, DL.mWell, DL.mT, DL.mTAnd, DL.mTOr, DL.mTNot, DL.mTYes, DL.mgName, DL.mgNil_n, DL.mgCons_c, DL.mgTup_t, DL.mgTup_l, DL.miSeq, DL.miRng1, DL.miRng2, DL.mRaise, DL.mApp, DL.mFor, DL.mLc, DL.mrLc, DL.sget, DL.sset, DL.slots0, DL.slotsW, DL.endP, DL.endW, DL.endL, DL.wF, DL.fz_va, DL.fz_own, List.length_cons, List.length_nil, List.map_cons, List.map_nil, List.replicate_succ, List.replicate_zero, Nat.reduceAdd, Nat.reduceSub, Nat.reduceLeDiff, List.cons_append, List.nil_append, Nat.zero_add, Nat.add_zero, Nat.sub_self, Option.some.injEq, PyData.bool.injEq, PyData.int.injEq, PyData.tuple.injEq, PyData.list.injEq, PyData.str.injEq, List.cons.injEq, DL.S.va.injEq, DL.S.own.injEq, DL.S.well.injEq, DL.S.scr.injEq, and_true, true_and, exists_eq_left', exists_eq_left, exists_eq_right, exists_eq_right', exists_and_left, exists_and_right, exists_eq, exists_eq', reduceCtorEq, false_and, and_false, exists_const, if_true, if_false, Bool.false_eq_true, reduceIte, Bool.not_true, Bool.not_false, DL.bIsi, List.any_cons, List.any_nil, Bool.or_false, Bool.or_true, Bool.false_or, Bool.true_or, DL.isK, DL.opAdd_i, DL.opSub_i, DL.opLt_i, DL.opLe_i, DL.opGt_i, DL.opGe_i, DL.opEq_int, DL.opNe_int, DL.opEq_b, DL.opNe_b, DL.opEq_nn, beq_self_eq_true, DL.opEq_str, DL.opNe_str, DL.opIsN_n, DL.opNotN_n, DL.isN, DL.opIsB_b, DL.opNotB_b, DL.opNeg_i, DL.bAbs_i, DL.bMax_i, DL.bMin_i, DL.bInt_i, DL.bGcd_i, DL.bLen_l, DL.bLen_t, DL.opAdd_t, DL.opAdd_l, DL.opIx_l, DL.opIx_t, DL.opSl_t, DL.opSl_l, DL.opRev_t, DL.opRev_l, DL.bList_l, DL.bList_t, DL.bTup_l, DL.bTup_t, DL.atI0, DL.atI1, DL.atI2, DL.atI3, DL.items_t, DL.items_l]
          exact hY _ _ rfl ⟨_, rfl⟩
        · simp only [swipe]
          simp only [DL.mSeq, DL.mAsg, DL.mAsgR, DL.mAsgM, DL.mrs, DL.ssets, DL.mIf, DL.mRet, DL.mRetN, DL.mrOf, DL.mrLst, DL.mrCat, DL.mrCall, DL.mDrop, DL.mNext, DL.mBreak, DL.mCont, DL.mC, DL.mVar, DL.mOp2, DL.mOp1, DL.mAnd, DL.mOr, DL.mNot, DL.mIfE, DL.mChain, DL.mNil, DL.mCons, DL.mTup, DL.mLst, DL.mCallB, DL.mDict0, DL.mPart, DL.mNoPart, DL.mSl, DL.mCall, DL.mCallK, DL.mCallW, DL.mLenScr, DL.mWell, DL.mT, DL.mTAnd, DL.mTOr, DL.mTNot, DL.mTYes, DL.mgName, DL.mgNil_n, DL.mgCons_c, DL.mgTup_t, DL.mgTup_l, DL.miSeq, DL.miRng1, DL.miRng2, DL.mRaise, DL.mApp, DL.mFor, DL.mLc, DL.mrLc, DL.sget, DL.sset, DL.slots0, DL.slotsW, DL.endP, DL.endW, DL.endL, DL.wF, DL.fz_va, DL.fz_own, List.length_cons, List.length_nil, List.map_cons, List.map_nil, List.replicate_succ, List.replicate_zero, Nat.reduceAdd, Nat.reduceSub, Nat.reduceLeDiff, List.cons_append, List.nil_append, Nat.zero_add, Nat.add_zero, Nat.sub_self, Option.some.injEq, PyData.bool.injEq, PyData.int.injEq, PyData.tuple.injEq, PyData.list.injEq, PyData.str.injEq, List.cons.injEq, DL.S.va.injEq, DL.S.own.injEq, DL.S.well.injEq, DL.S.scr.injEq, and_true, true_and, exists_eq_left', exists_eq_left, exists_eq_right, exists_eq_right', exists_and_left, exists_and_right, exists_eq, exists_eq', reduceCtorEq, false_and, and_false, exists_const, if_true, if_false, Bool.false_eq_true, reduceIte, Bool.not_true, Bool.not_false, DL.bIsi, List.any_cons, List.any_nil, Bool.or_false, Bool.or_true, Bool.false_or, Bool.true_or, DL.isK, DL.opAdd_i, DL.opSub_i, DL.opLt_i, DL.opLe_i, DL.opGt_i, DL.opGe_i, DL.opEq_int, DL.opNe_int, DL.opEq_b, DL.opNe_b, DL.opEq_nn, beq_self_eq_true, DL.opEq_str, DL.opNe_str, DL.opIsN_n, DL.opNotN_n, DL.isN, DL.opIsB_b, DL.opNotB_b, DL.opNeg_i, DL.bAbs_i, DL.bMax_i, DL.bMin_i, DL.bInt_i, DL.bGcd_i, DL.bLen_l, DL.bLen_t, DL.opAdd_t, DL.opAdd_l, DL.opIx_l, DL.opIx_t, DL.opSl_t, DL.opSl_l, DL.opRev_t, DL.opRev_l, DL.bList_l, DL.bList_t, DL.bTup_l, DL.bTup_t, DL.atI0, DL.atI1, DL.atI2, DL.atI3, DL.items_t, DL.items_l]
          exact hY _ _ rfl ⟨_, rfl⟩
      · rintro s' ⟨x10, rfl⟩
        exact hq _
    refine ab _ _ _ _ _ _ _ _ _ _ _ _ _ (fun x10 => ?_) _
    simp only [sback]
    simp only [DL.mSeq, DL.mAsg, DL.mAsgR, DL.mAsgM, DL.mrs, DL.ssets, DL.mIf, DL.mRet, DL.mRetN, DL.mrOf, DL.mrLst, DL.mrCat, DL.mrCall, DL.mDrop, DL.mNext, DL.mBreak, DL.mCont, DL.mC, DL.mVar, DL.mOp2, DL.mOp1, DL.mAnd, DL.mOr, DL.mNot, DL.mIfE, DL.mChain, DL.mNil, DL.mCons, DL.mTup, DL.mLst, DL.mCallB, DL.mDict0, DL.mPart, DL.mNoPart, DL.mSl, DL.mCall, DL.mCallK, DL.mCallW, DL.mLenScr, DL.mWell, DL.mT, DL.mTAnd, DL.mTOr, DL.mTNot, DL.mTYes, DL.mgName, DL.mgNil_n, DL.mgCons_c, DL.mgTup_t, DL.mgTup_l, DL.miSeq, DL.miRng1, DL.miRng2, DL.mRaise, DL.mApp, DL.mFor, DL.mLc, DL.mrLc, DL.sget, DL.sset, DL.slots0, DL.slotsW, DL.endP, DL.endW, DL.endL, DL.wF, DL.fz_va, DL.fz_own, List.length_cons, List.length_nil, List.map_cons, List.map_nil, List.replicate_succ, List.replicate_zero, Nat.reduceAdd, Nat.reduceSub, Nat.reduceLeDiff, List.cons_append, List.nil_append, Nat.zero_add, Nat.add_zero, Nat.sub_self, Option.some.injEq, PyData.bool.injEq, PyData.int.injEq, PyData.tuple.injEq, PyData.list.injEq, PyData.str.injEq, List.cons.injEq, DL.S.va.injEq, DL.S.own.injEq, DL.S.well.injEq, DL.S.scr.injEq, and_true, true_and, exists_eq_left', exists_eq_left, exists_eq_right, exists_eq_right', exists_and_left, exists_and_right, exists_eq, exists_eq', reduceCtorEq, false_and, and_false, exists_const, if_true, if_false, Bool.false_eq_true, reduceIte, Bool.not_true, Bool.not_false, DL.bIsi, List.any_cons, List.any_nil, Bool.or_false, Bool.or_true, Bool.false_or, Bool.true_or, DL.isK, DL.opAdd_i, DL.opSub_i, DL.opLt_i, DL.opLe_i, DL.opGt_i, DL.opGe_i, DL.opEq_int, DL.opNe_int, DL.opEq_b, DL.opNe_b, DL.opEq_nn, beq_self_eq_true, DL.opEq_str, DL.opNe_str, DL.opIsN_n, DL.opNotN_n, DL.isN, DL.opIsB_b, DL.opNotB_b, DL.opNeg_i, DL.bAbs_i, DL.bMax_i, DL.bMin_i, DL.bInt_i, DL.bGcd_i, DL.bLen_l, DL.bLen_t, DL.opAdd_t, DL.opAdd_l, DL.opIx_l, DL.opIx_t, DL.opSl_t, DL.opSl_l, DL.opRev_t, DL.opRev_l, DL.bList_l, DL.bList_t, DL.bTup_l, DL.bTup_t, DL.atI0, DL.atI1, DL.atI2, DL.atI3, DL.items_t, DL.items_l]
    first | refine ⟨_, rfl, _, rfl, rfl, ?_⟩ | refine ⟨rfl, ?_⟩
    show lcL (mgName 10) mTYes (mCallB bAbs (mCons (mVar 10) mNil)) [10] _ [.int p, .int q'] _ []
    refine ab p q' _ _ _ _ _ _ _ _ _ _ _ (fun x10 => ?_) _
    try simp only [sback]
    try simp only [DL.mSeq, DL.mAsg, DL.mAsgR, DL.mAsgM, DL.mrs, DL.ssets, DL.mIf, DL.mRet, DL.mRetN, DL.mrOf, DL.mrLst, DL.mrCat, DL.mrCall, DL.mDrop, DL.mNext, DL.mBreak, DL.mCont, DL.mC, DL.mVar, DL.mOp2, DL.mOp1, DL.mAnd, DL.mOr, DL.mNot, DL.mIfE, DL.mChain, DL.mNil, DL.mCons, DL.mTup, DL.mLst, DL.mCallB, DL.mDict0, DL.mPart, DL.mNoPart, DL.mSl, DL.mCall, DL.mCallK, DL.mCallW, DL.mLenScr, DL.mWell, DL.mT, DL.mTAnd, DL.mTOr, DL.mTNot, DL.mTYes, DL.mgName, DL.mgNil_n, DL.mgCons_c, DL.mgTup_t, DL.mgTup_l, DL.miSeq, DL.miRng1, DL.miRng2, DL.mRaise, DL.mApp, DL.mFor, DL.mLc, DL.mrLc, DL.sget, DL.sset, DL.slots0, DL.slotsW, DL.endP, DL.endW, DL.endL, DL.wF, DL.fz_va, DL.fz_own, List.length_cons, List.length_nil, List.map_cons, List.map_nil, List.replicate_succ, List.replicate_zero, Nat.reduceAdd, Nat.reduceSub, Nat.reduceLeDiff, List.cons_append, List.nil_append, Nat.zero_add, Nat.add_zero, Nat.sub_self, Option.some.injEq, PyData.bool.injEq, PyData.int.injEq, PyData.tuple.injEq, PyData.list.injEq, PyData.str.injEq, List.cons.injEq, DL.S.va.injEq, DL.S.own.injEq, DL.S.well.injEq, DL.S.scr.injEq, and_true, true_and, exists_eq_left', exists_eq_left, exists_eq_right, exists_eq_right', exists_and_left, exists_and_right, exists_eq, exists_eq', reduceCtorEq, false_and, and_false, exists_const, if_true, if_false, Bool.false_eq_true, reduceIte, Bool.not_true, Bool.not_false, DL.bIsi, List.any_cons, List.any_nil, Bool.or_false, Bool.or_true, Bool.false_or, Bool.true_or, DL.isK, DL.opAdd_i, DL.opSub_i, DL.opLt_i, DL.opLe_i, DL.opGt_i, DL.opGe_i, DL.opEq_int, DL.opNe_int, DL.opEq_b, DL.opNe_b, DL.opEq_nn, beq_self_eq_true, DL.opEq_str, DL.opNe_str, DL.opIsN_n, DL.opNotN_n, DL.isN, DL.opIsB_b, DL.opNotB_b, DL.opNeg_i, DL.bAbs_i, DL.bMax_i, DL.bMin_i, DL.bInt_i, DL.bGcd_i, DL.bLen_l, DL.bLen_t, DL.opAdd_t, DL.opAdd_l, DL.opIx_l, DL.opIx_t, DL.opSl_t, DL.opSl_l, DL.opRev_t, DL.opRev_l, DL.bList_l, DL.bList_t, DL.bTup_l, DL.bTup_t, DL.atI0, DL.atI1, DL.atI2, DL.atI3, DL.items_t, DL.items_l]
    refine ⟨_, opNe_ll, _, rfl, ?_⟩
    rw [abs_way, abs_way, if_neg (by simp)]
    exact h _ rfl
  rintro _ rfl
  refine seq_run (fun s => s = [.va (.tuple [.int a, .int b]), .va (.tuple [.int x, .int y, .int p, .int q']), .va (.tuple [.int n, .int m]), .va (.int n), .va (.int m), .va (.tuple [.tuple [.int r1, .int c1], .tuple [.int r2, .int c2]]), .va (.tuple [.tuple [.int r1, .int c1], .tuple [.int r2, .int c2]]), .va (.tuple [.int (wayN a x p n m), .int (wayN b y q' n m)]), .va (.bool (decide (c1 = 1) && decide (c2 = 1))), .no, .no]) (fun N h => ?_) ?_
  · simp only [DL.mSeq, DL.mAsg, DL.mAsgR, DL.mAsgM, DL.mrs, DL.ssets, DL.mIf, DL.mRet, DL.mRetN, DL.mrOf, DL.mrLst, DL.mrCat, DL.mrCall, DL.mDrop, DL.mNext, DL.mBreak, DL.mCont, DL.mC, DL.mVar, DL.mOp2, DL.mOp1, DL.mAnd, DL.mOr, DL.mNot, DL.mIfE, DL.mChain, DL.mNil, DL.mCons, DL.mTup, DL.mLst, DL.mCallB, DL.mDict0, DL.mPart, DL.mNoPart, DL.mSl, DL.mCall, DL.mCallK, DL.mCallW, DL.mLenScr, DL.mWell, DL.mT, DL.mTAnd, DL.mTOr, DL.mTNot, DL.mTYes, DL.mgName, DL.mgNil_n, DL.mgCons_c, DL.mgTup_t, DL.mgTup_l, DL.miSeq, DL.miRng1, DL.miRng2, DL.mRaise, DL.mApp, DL.mFor, DL.mLc, DL.mrLc, DL.sget, DL.sset, DL.slots0, DL.slotsW, DL.endP, DL.endW, DL.endL, DL.wF, DL.fz_va, DL.fz_own, List.length_cons, List.length_nil, List.map_cons, List.map_nil, List.replicate_succ, List.replicate_zero, Nat.reduceAdd, Nat.reduceSub, Nat.reduceLeDiff, List.cons_append, List.nil_append, Nat.zero_add, Nat.add_zero, Nat.sub_self, Option.some.injEq, PyData.bool.injEq, PyData.int.injEq, PyData.tuple.injEq, PyData.list.injEq, PyData.str.injEq, List.cons.injEq, DL.S.va.injEq, DL.S.own.injEq, DL.S.well.injEq, DL.S.scr.injEq, and_true, true_and, exists_eq_left', exists_eq_left, exists_eq_right, exists_eq_right', exists_and_left, exists_and_right, exists_eq, exists_eq', reduceCtorEq, false_and, and_false, exists_const, if_true, if_false, Bool.false_eq_true, reduceIte, Bool.not_true, Bool.not_false, DL.bIsi, List.any_cons, List.any_nil, Bool.or_false, Bool.or_true, Bool.false_or, Bool.true_or, DL.isK, DL.opAdd_i, DL.opSub_i, DL.opLt_i, DL.opLe_i, DL.opGt_i, DL.opGe_i, DL.opEq_int, DL.opNe_int, DL.opEq_b, DL.opNe_b, DL.opEq_nn, beq_self_eq_true, DL.opEq_str, DL.opNe_str, DL.opIsN_n, DL.opNotN_n, DL.isN, DL.opIsB_b, DL.opNotB_b, DL.opNeg_i, DL.bAbs_i, DL.bMax_i, DL.bMin_i, DL.bInt_i, DL.bGcd_i, DL.bLen_l, DL.bLen_t, DL.opAdd_t, DL.opAdd_l, DL.opIx_l, DL.opIx_t, DL.opSl_t, DL.opSl_l, DL.opRev_t, DL.opRev_l, DL.bList_l, DL.bList_t, DL.bTup_l, DL.bTup_t, DL.atI0, DL.atI1, DL.atI2, DL.atI3, DL.items_t, DL.items_l]
    have h' := h _ rfl
    by_cases k : c1 = 1
    · rw [if_pos (decide_eq_true k)]
      rw [decide_eq_true k, Bool.true_and] at h'
      exact h'
    · rw [if_neg (by simpa using k)]
      rw [decide_eq_false k, Bool.false_and] at h'
      exact h'
  rintro _ rfl
  refine seq_run (fun s => s = [.va (.tuple [.int a, .int b]), .va (.tuple [.int x, .int y, .int p, .int q']), .va (.tuple [.int n, .int m]), .va (.int n), .va (.int m), .va (.tuple [.tuple [.int r1, .int c1], .tuple [.int r2, .int c2]]), .va (.tuple [.tuple [.int r1, .int c1], .tuple [.int r2, .int c2]]), .va (.tuple [.int (wayN a x p n m), .int (wayN b y q' n m)]), .va (.bool (decide (c1 = 1) && decide (c2 = 1))), .va (shotN a b x y p q' n m), .no]) (fun N h => ?_) ?_
  · simp only [DL.mSeq, DL.mAsg, DL.mAsgR, DL.mAsgM, DL.mrs, DL.ssets, DL.mIf, DL.mRet, DL.mRetN, DL.mrOf, DL.mrLst, DL.mrCat, DL.mrCall, DL.mDrop, DL.mNext, DL.mBreak, DL.mCont, DL.mC, DL.mVar, DL.mOp2, DL.mOp1, DL.mAnd, DL.mOr, DL.mNot, DL.mIfE, DL.mChain, DL.mNil, DL.mCons, DL.mTup, DL.mLst, DL.mCallB, DL.mDict0, DL.mPart, DL.mNoPart, DL.mSl, DL.mCall, DL.mCallK, DL.mCallW, DL.mLenScr, DL.mWell, DL.mT, DL.mTAnd, DL.mTOr, DL.mTNot, DL.mTYes, DL.mgName, DL.mgNil_n, DL.mgCons_c, DL.mgTup_t, DL.mgTup_l, DL.miSeq, DL.miRng1, DL.miRng2, DL.mRaise, DL.mApp, DL.mFor, DL.mLc, DL.mrLc, DL.sget, DL.sset, DL.slots0, DL.slotsW, DL.endP, DL.endW, DL.endL, DL.wF, DL.fz_va, DL.fz_own, List.length_cons, List.length_nil, List.map_cons, List.map_nil, List.replicate_succ, List.replicate_zero, Nat.reduceAdd, Nat.reduceSub, Nat.reduceLeDiff, List.cons_append, List.nil_append, Nat.zero_add, Nat.add_zero, Nat.sub_self, Option.some.injEq, PyData.bool.injEq, PyData.int.injEq, PyData.tuple.injEq, PyData.list.injEq, PyData.str.injEq, List.cons.injEq, DL.S.va.injEq, DL.S.own.injEq, DL.S.well.injEq, DL.S.scr.injEq, and_true, true_and, exists_eq_left', exists_eq_left, exists_eq_right, exists_eq_right', exists_and_left, exists_and_right, exists_eq, exists_eq', reduceCtorEq, false_and, and_false, exists_const, if_true, if_false, Bool.false_eq_true, reduceIte, Bool.not_true, Bool.not_false, DL.bIsi, List.any_cons, List.any_nil, Bool.or_false, Bool.or_true, Bool.false_or, Bool.true_or, DL.isK, DL.opAdd_i, DL.opSub_i, DL.opLt_i, DL.opLe_i, DL.opGt_i, DL.opGe_i, DL.opEq_int, DL.opNe_int, DL.opEq_b, DL.opNe_b, DL.opEq_nn, beq_self_eq_true, DL.opEq_str, DL.opNe_str, DL.opIsN_n, DL.opNotN_n, DL.isN, DL.opIsB_b, DL.opNotB_b, DL.opNeg_i, DL.bAbs_i, DL.bMax_i, DL.bMin_i, DL.bInt_i, DL.bGcd_i, DL.bLen_l, DL.bLen_t, DL.opAdd_t, DL.opAdd_l, DL.opIx_l, DL.opIx_t, DL.opSl_t, DL.opSl_l, DL.opRev_t, DL.opRev_l, DL.bList_l, DL.bList_t, DL.bTup_l, DL.bTup_t, DL.atI0, DL.atI1, DL.atI2, DL.atI3, DL.items_t, DL.items_l]
    have h' := h _ rfl
    rw [sh] at h'
    by_cases k : c1 = 1 ∧ c2 = 1
    · rw [if_pos (by simp [k.1, k.2])]
      rw [if_pos k] at h'
      exact h'
    · rw [if_neg (by simpa using fun z1 z2 => k ⟨z1, z2⟩)]
      rw [if_neg k] at h'
      exact h'
  rintro _ rfl
  have ss : sd 2 (shotN a b x y p q' n m) = true := by
    rw [sh]
    split <;> rfl
  refine seq_run (fun s => s = [.va (.tuple [.int a, .int b]), .va (.tuple [.int x, .int y, .int p, .int q']), .va (.tuple [.int n, .int m]), .va (.int n), .va (.int m), .va (.tuple [.tuple [.int r1, .int c1], .tuple [.int r2, .int c2]]), .va (.list [shotN a b x y p q' n m, shotN a b x y p q' n m]), .va (.tuple [.int (wayN a x p n m), .int (wayN b y q' n m)]), .va (.bool (decide (c1 = 1) && decide (c2 = 1))), .va (shotN a b x y p q' n m), .no]) (fun N h => ?_) ?_
  · simp only [DL.mSeq, DL.mAsg, DL.mAsgR, DL.mAsgM, DL.mrs, DL.ssets, DL.mIf, DL.mRet, DL.mRetN, DL.mrOf, DL.mrLst, DL.mrCat, DL.mrCall, DL.mDrop, DL.mNext, DL.mBreak, DL.mCont, DL.mC, DL.mVar, DL.mOp2, DL.mOp1, DL.mAnd, DL.mOr, DL.mNot, DL.mIfE, DL.mChain, DL.mNil, DL.mCons, DL.mTup, DL.mLst, DL.mCallB, DL.mDict0, DL.mPart, DL.mNoPart, DL.mSl, DL.mCall, DL.mCallK, DL.mCallW, DL.mLenScr, DL.mWell, DL.mT, DL.mTAnd, DL.mTOr, DL.mTNot, DL.mTYes, DL.mgName, DL.mgNil_n, DL.mgCons_c, DL.mgTup_t, DL.mgTup_l, DL.miSeq, DL.miRng1, DL.miRng2, DL.mRaise, DL.mApp, DL.mFor, DL.mLc, DL.mrLc, DL.sget, DL.sset, DL.slots0, DL.slotsW, DL.endP, DL.endW, DL.endL, DL.wF, DL.fz_va, DL.fz_own, List.length_cons, List.length_nil, List.map_cons, List.map_nil, List.replicate_succ, List.replicate_zero, Nat.reduceAdd, Nat.reduceSub, Nat.reduceLeDiff, List.cons_append, List.nil_append, Nat.zero_add, Nat.add_zero, Nat.sub_self, Option.some.injEq, PyData.bool.injEq, PyData.int.injEq, PyData.tuple.injEq, PyData.list.injEq, PyData.str.injEq, List.cons.injEq, DL.S.va.injEq, DL.S.own.injEq, DL.S.well.injEq, DL.S.scr.injEq, and_true, true_and, exists_eq_left', exists_eq_left, exists_eq_right, exists_eq_right', exists_and_left, exists_and_right, exists_eq, exists_eq', reduceCtorEq, false_and, and_false, exists_const, if_true, if_false, Bool.false_eq_true, reduceIte, Bool.not_true, Bool.not_false, DL.bIsi, List.any_cons, List.any_nil, Bool.or_false, Bool.or_true, Bool.false_or, Bool.true_or, DL.isK, DL.opAdd_i, DL.opSub_i, DL.opLt_i, DL.opLe_i, DL.opGt_i, DL.opGe_i, DL.opEq_int, DL.opNe_int, DL.opEq_b, DL.opNe_b, DL.opEq_nn, beq_self_eq_true, DL.opEq_str, DL.opNe_str, DL.opIsN_n, DL.opNotN_n, DL.isN, DL.opIsB_b, DL.opNotB_b, DL.opNeg_i, DL.bAbs_i, DL.bMax_i, DL.bMin_i, DL.bInt_i, DL.bGcd_i, DL.bLen_l, DL.bLen_t, DL.opAdd_t, DL.opAdd_l, DL.opIx_l, DL.opIx_t, DL.opSl_t, DL.opSl_l, DL.opRev_t, DL.opRev_l, DL.bList_l, DL.bList_t, DL.bTup_l, DL.bTup_t, DL.atI0, DL.atI1, DL.atI2, DL.atI3, DL.items_t, DL.items_l]
    exact v.at ⟨_, rfl, v.at ⟨_, rfl, h _ rfl⟩⟩
  rintro _ rfl
  simp only [DL.mSeq, DL.mAsg, DL.mAsgR, DL.mAsgM, DL.mrs, DL.ssets, DL.mIf, DL.mRet, DL.mRetN, DL.mrOf, DL.mrLst, DL.mrCat, DL.mrCall, DL.mDrop, DL.mNext, DL.mBreak, DL.mCont, DL.mC, DL.mVar, DL.mOp2, DL.mOp1, DL.mAnd, DL.mOr, DL.mNot, DL.mIfE, DL.mChain, DL.mNil, DL.mCons, DL.mTup, DL.mLst, DL.mCallB, DL.mDict0, DL.mPart, DL.mNoPart, DL.mSl, DL.mCall, DL.mCallK, DL.mCallW, DL.mLenScr, DL.mWell, DL.mT, DL.mTAnd, DL.mTOr, DL.mTNot, DL.mTYes, DL.mgName, DL.mgNil_n, DL.mgCons_c, DL.mgTup_t, DL.mgTup_l, DL.miSeq, DL.miRng1, DL.miRng2, DL.mRaise, DL.mApp, DL.mFor, DL.mLc, DL.mrLc, DL.sget, DL.sset, DL.slots0, DL.slotsW, DL.endP, DL.endW, DL.endL, DL.wF, DL.fz_va, DL.fz_own, List.length_cons, List.length_nil, List.map_cons, List.map_nil, List.replicate_succ, List.replicate_zero, Nat.reduceAdd, Nat.reduceSub, Nat.reduceLeDiff, List.cons_append, List.nil_append, Nat.zero_add, Nat.add_zero, Nat.sub_self, Option.some.injEq, PyData.bool.injEq, PyData.int.injEq, PyData.tuple.injEq, PyData.list.injEq, PyData.str.injEq, List.cons.injEq, DL.S.va.injEq, DL.S.own.injEq, DL.S.well.injEq, DL.S.scr.injEq, and_true, true_and, exists_eq_left', exists_eq_left, exists_eq_right, exists_eq_right', exists_and_left, exists_and_right, exists_eq, exists_eq', reduceCtorEq, false_and, and_false, exists_const, if_true, if_false, Bool.false_eq_true, reduceIte, Bool.not_true, Bool.not_false, DL.bIsi, List.any_cons, List.any_nil, Bool.or_false, Bool.or_true, Bool.false_or, Bool.true_or, DL.isK, DL.opAdd_i, DL.opSub_i, DL.opLt_i, DL.opLe_i, DL.opGt_i, DL.opGe_i, DL.opEq_int, DL.opNe_int, DL.opEq_b, DL.opNe_b, DL.opEq_nn, beq_self_eq_true, DL.opEq_str, DL.opNe_str, DL.opIsN_n, DL.opNotN_n, DL.isN, DL.opIsB_b, DL.opNotB_b, DL.opNeg_i, DL.bAbs_i, DL.bMax_i, DL.bMin_i, DL.bInt_i, DL.bGcd_i, DL.bLen_l, DL.bLen_t, DL.opAdd_t, DL.opAdd_l, DL.opIx_l, DL.opIx_t, DL.opSl_t, DL.opSl_l, DL.opRev_t, DL.opRev_l, DL.bList_l, DL.bList_t, DL.bTup_l, DL.bTup_t, DL.atI0, DL.atI1, DL.atI2, DL.atI3, DL.items_t, DL.items_l]
  exact ⟨_, rfl, sd_mono (by decide) (sd_twoL ss ss), _, rfl, q⟩
section
variable {P : Program} {w : World} {K : PySem.W.Frag} {mg : Str → Option Value} {base : Heap} {CN : String → Option Addr}
theorem ok__law_right {f : Addr} {fd : FuncData} (F : Fun K "_law_right" "_law_right" s__law_right f fd) (g : G K mg CN) (c__law_same : CalP P w K mg base CN 6 "_law_same" (D__law_same 5)) (c__law_spot : CalP P w K mg base CN 3 "_law_spot" D__law_spot) (c_place_at : CalP P w K mg base CN 8 "place_at" D_place_at) (c_shot_at : CalP P w K mg base CN 8 "shot_at" D_shot_at) (c_way_at : CalP P w K mg base CN 8 "way_at" D_way_at) (kc_place_at_0_time_shot_table : CalK P w K mg base CN 8 "place_at" D_place_at ["time", "shot", "table"] (gSel 0 3 [.k 2, .k 1, .k 0])) (kc_way_at_0_time_shot_table : CalK P w K mg base CN 8 "way_at" D_way_at ["time", "shot", "table"] (gSel 0 3 [.k 2, .k 1, .k 0])) (kc_shot_at_0_time_shot_table : CalK P w K mg base CN 8 "shot_at" D_shot_at ["time", "shot", "table"] (gSel 0 3 [.k 2, .k 1, .k 0])) : FnG P w K mg base 9 f fd ["desk", "shot_here", "time_here"] (spP K CN D__law_right) := by
  have sc := sc__law_right
  exact fun_okP (m := m__law_right) F sc (by decide) len__law_right (fun cdv A outer s H E C W hw hr tk =>
    (pds_cons (pds_asg (ps_asg (dv 2) (pdg_tup rfl (gcons (dg 3 sc.nd) (gcons (dg 4 sc.nd) pdgs_nil)))))
    (pds_cons (pds_asg (ps_asg (pd_call c__law_spot hr (by decide) tk (pda_cons (dv 0) (pda_cons (dv 1) (pda_cons (dv 3) (pda_cons (dv 4) pda_nil))))) (dg 5 sc.nd)))
    (pds_cons (pds_asg (ps_asg (pd_call c_place_at hr (by decide) tk (pda_cons (dv 0) (pda_cons (dv 1) (pda_cons (dv 2) pda_nil)))) (dg 6 sc.nd)))
    (pds_cons (pds_if (pdt_not (pdt_val (pd_call c__law_same hr (by decide) tk (pda_cons (pd_lst (pda_cons (dv 6) (pda_cons (pd_callK0 kc_place_at_0_time_shot_table hr (by decide) tk (pdk_cons (dv 2) (pdk_cons (dv 1) (pdk_cons (dv 0) pdk_nil)))) pda_nil))) (pda_cons (pd_lst (pda_cons (dv 5) (pda_cons (dv 5) pda_nil))) pda_nil))))) (pds_one (pds_ret (pdr_of pd_bl))) pds_nil)
    (pds_cons (pds_asg (ps_asg (pd_call c_way_at hr (by decide) tk (pda_cons (dv 0) (pda_cons (dv 1) (pda_cons (dv 2) pda_nil)))) (dg 7 sc.nd)))
    (pds_cons (pds_if (pdt_not (pdt_val (pd_call c__law_same hr (by decide) tk (pda_cons (dv 7) (pda_cons (pd_callK0 kc_way_at_0_time_shot_table hr (by decide) tk (pdk_cons (dv 2) (pdk_cons (dv 1) (pdk_cons (dv 0) pdk_nil)))) pda_nil))))) (pds_one (pds_ret (pdr_of pd_bl))) pds_nil)
    (pds_cons (pds_if (pdt_cmp (or_neD (RoomG.u64 hr)) rl_ne (pd_lc (pe_lc (own := [("one", 10)]) rfl sc.nd (pdi_seq (dv 7)) (blkOk_by (N := ["desk", "shot_here", "time_here", "top_here", "bottom_here", "due", "told", "ways", "whole", "shot_due", "one"]) (sc := (defScope s__law_right)) (by decide +kernel)) (fun _ _ _ _ _ => (dgv 10 (vs := [10]) sc.nd)) (fun _ _ _ _ _ => pdts_nil) (fun _ _ _ _ _ => (pd_callB call_abs rc_abs g.b_abs (by decide +kernel) (pda_cons (dv 10) pda_nil))))) (pd_lc (pe_lc (own := [("one", 10)]) rfl sc.nd (pdi_seq (pd_slA (dv 1) pd_int)) (blkOk_by (N := ["desk", "shot_here", "time_here", "top_here", "bottom_here", "due", "told", "ways", "whole", "shot_due", "one"]) (sc := (defScope s__law_right)) (by decide +kernel)) (fun _ _ _ _ _ => (dgv 10 (vs := [10]) sc.nd)) (fun _ _ _ _ _ => pdts_nil) (fun _ _ _ _ _ => (pd_callB call_abs rc_abs g.b_abs (by decide +kernel) (pda_cons (dv 10) pda_nil))))) (nomark _)) (pds_one (pds_ret (pdr_of pd_bl))) pds_nil)
    (pds_cons (pds_asg (ps_asg (pd_and (pd_cmp (or_eqD (RoomG.u64 hr)) rl_eq (pd_ix ix_seq rl_ix (pd_ix ix_seq rl_ix (dv 5) pd_int) pd_int) pd_int (nomark _)) (pd_one (pd_cmp (or_eqD (RoomG.u64 hr)) rl_eq (pd_ix ix_seq rl_ix (pd_ix ix_seq rl_ix (dv 5) pd_int) pd_int) pd_int (nomark _)))) (dg 8 sc.nd)))
    (pds_cons (pds_asg (ps_asg (pd_ifE (pdt_val (dv 8)) (pd_op or_add rl_add (pd_tup (pda_cons (pd_ix ix_seq rl_ix (pd_ix ix_seq rl_ix (dv 5) pd_int) pd_int) (pda_cons (pd_ix ix_seq rl_ix (pd_ix ix_seq rl_ix (dv 5) pd_int) pd_int) pda_nil))) (dv 7)) pd_non) (dg 9 sc.nd)))
    (pds_cons (pds_asg (ps_asg (pd_lst (pda_cons (pd_call c_shot_at hr (by decide) tk (pda_cons (dv 0) (pda_cons (dv 1) (pda_cons (dv 2) pda_nil)))) (pda_cons (pd_callK0 kc_shot_at_0_time_shot_table hr (by decide) tk (pdk_cons (dv 2) (pdk_cons (dv 1) (pdk_cons (dv 0) pdk_nil)))) pda_nil))) (dg 6 sc.nd)))
    (pds_one (pds_ret (pdr_of (pd_call c__law_same hr (by decide) tk (pda_cons (dv 6) (pda_cons (pd_lst (pda_cons (dv 9) (pda_cons (dv 9) pda_nil))) pda_nil))))))))))))))))) rd__law_right
end
end LW
namespace LW
open PySem PySem.Spec PyProof.Rows L2 DL
def m__law_small_right : MS :=
  mSeq (mAsg (mCallW D__law_desk 0 (mCons (mC (.int 6)) (mNil))) (mgName 1))
  (mSeq (mAsg (mCallW D__law_roll 0 (mCons (mVar 1) (mCons (mC (.int 3)) (mNil)))) (mgName 2))
  (mSeq (mAsg (mCall D__law_hits wF (mCons (mVar 1) (mCons (mVar 2) (mCons (mC (.int 12)) (mNil))))) (mgName 3))
  (mSeq (mAsgR 4 (mrCat (mLc (miSeq (mSl opSl (mVar 3) mNoPart (mPart (mC (.int 6))))) (mgName 9) (mTYes) (mOp2 opIx (mVar 9) (mC (.int 0))) [9]) (mLst (mCons (mTup (mCons (mC (.int 0)) (mCons (mC (.int 1)) (mNil)))) (mCons (mTup (mCons (mCallW dDraw 0 (mCons (mC (.int 9)) (mNil))) (mCons (mC (.int 1)) (mNil)))) (mNil))))))
  (mSeq (mApp 4 (mCall D__law_low wF (mCons (mCallW dDraw 0 (mCons (mC (.int 40)) (mNil))) (mCons (mOp2 opAdd (mC (.int 1)) (mCallW dDraw 0 (mCons (mC (.int 12)) (mNil)))) (mNil)))))
  (mSeq (mFor (miSeq (mVar 4)) (mgName 5) (mSeq (mIf (mTNot (mT (mCall D__law_right wF (mCons (mVar 1) (mCons (mVar 2) (mCons (mVar 5) (mNil))))))) (mRet (mrOf (mC (.bool false)))) (mNext))
  (mSeq (mAsg (mCall D__law_way wF (mCons (mVar 1) (mCons (mVar 2) (mCons (mVar 5) (mNil))))) (mgName 6))
  (mSeq (mIf (mTAnd (mT (mOp2 opNotN2 (mVar 6) (mC .none))) (mT (mOp2 opNe (mCall D_way_at wF (mCons (mVar 1) (mCons (mVar 2) (mCons (mVar 5) (mNil))))) (mVar 6)))) (mRet (mrOf (mC (.bool false)))) (mNext))
  (mSeq (mAsg (mOp2 opMul (mOp2 opMul (mOp2 opMul (mC (.int 4)) (mOp2 opIx (mVar 1) (mC (.int 0)))) (mOp2 opIx (mVar 1) (mC (.int 1)))) (mOp2 opSub (mCallW dDraw 0 (mCons (mOp2 opPow (mC (.int 10)) (mC (.int 30))) (mNil))) (mOp2 opPow (mC (.int 10)) (mC (.int 29))))) (mgName 7))
  (mSeq (mAsg (mCall D__law_low wF (mCons (mOp2 opAdd (mOp2 opIx (mVar 5) (mC (.int 0))) (mOp2 opMul (mVar 7) (mOp2 opIx (mVar 5) (mC (.int 1))))) (mCons (mOp2 opIx (mVar 5) (mC (.int 1))) (mNil)))) (mgName 8))
  (mSeq (mIf (mTNot (mT (mCall D__law_right wF (mCons (mVar 1) (mCons (mVar 2) (mCons (mVar 8) (mNil))))))) (mRet (mrOf (mC (.bool false)))) (mNext))
  (mIf (mT (mOp2 opNe (mCall D_way_at wF (mCons (mVar 1) (mCons (mVar 2) (mCons (mVar 8) (mNil))))) (mCall D_way_at wF (mCons (mVar 1) (mCons (mVar 2) (mCons (mVar 5) (mNil))))))) (mRet (mrOf (mC (.bool false)))) (mNext)))))))))
  (mRet (mrOf (mOp2 opEq (mLc (miSeq (mSl opSl (mVar 3) mNoPart (mPart (mC (.int 6))))) (mgName 9) (mTYes) (mOp2 opIx (mVar 9) (mC (.int 2))) [9]) (mLc (miSeq (mSl opSl (mVar 3) mNoPart (mPart (mC (.int 6))))) (mgName 9) (mTYes) (mCall D_place_at wF (mCons (mVar 1) (mCons (mVar 2) (mCons (mOp2 opIx (mVar 9) (mC (.int 0))) (mNil))))) [9])))))))))
def TimeOk (d : PyData) : Prop := ∃ n m : Int, d = .tuple [.int n, .int m] ∧ 0 ≤ n ∧ 1 ≤ m ∧ Nat.gcd n.natAbs m.natAbs = 1 ∧ sz 250 n ∧ m ≤ 100
theorem low_time {t b : Int} (ht : 0 ≤ t) (hb : 1 ≤ b) (zt : sz 250 t) (zb : b ≤ 100) : TimeOk (fracD t b) := by
  obtain ⟨-, h2, h3⟩ := low_facts (t := t) (m := b) hb
  have g := gcd_pos (t := t) hb
  exact ⟨_, _, rfl, Int.ediv_nonneg ht (by omega), h2, h3, sz_div zt g, Int.le_trans (Int.ediv_le_self _ (by omega)) zb⟩
theorem way_far {s A V n m k : Int} (hs : 1 ≤ s) (hm : 1 ≤ m) : rW s A V (n + 2 * s * k * m) m = rW s A V n m := by
  have M0 : 0 < s * m := Int.mul_pos (by omega) (by omega)
  have e : rP s A V (n + 2 * s * k * m) m = rP s A V n m + 2 * (V * k) := by
    unfold rP
    rw [show A * m + V * (n + 2 * s * k * m) = (A * m + V * n) + (s * m) * (2 * (V * k)) by
      rw [Int.mul_add, ← Int.add_assoc]
      simp only [Int.mul_assoc, Int.mul_comm, Int.mul_left_comm]]
    exact Int.add_mul_ediv_left _ _ (by omega)
  unfold rW
  rw [e]
  have : (rP s A V n m + 2 * (V * k)) % 2 = rP s A V n m % 2 := by
    generalize V * k = c
    omega
  rw [this]
def D__law_small_right : WSpec := fun n ds Q => ds = [] ∧ 200 ≤ n ∧ ∀ n', n ≤ n' + 60 → Q (.va (.bool true)) n'
theorem len__law_small_right : ∀ n ds Q, D__law_small_right n ds Q → ds.length + 1 = 1 := by
  rintro n _ Q ⟨rfl, _⟩
  rfl
theorem rd__law_small_right : ∀ n ds Q, D__law_small_right n ds Q → m__law_small_right (endW Q) (slotsW 10 n ds) := by
  rintro n _ Q ⟨rfl, hn, q⟩
  unfold m__law_small_right
  refine seq_run (fun s => ∃ a b n1, s = [.well n1, .va (.tuple [.int a, .int b]), .no, .no, .no, .no, .no, .no, .no, .no] ∧ n ≤ n1 + 4 ∧ 1 ≤ a ∧ a ≤ 7 ∧ 1 ≤ b ∧ b ≤ 17) (fun N h => ?_) ?_
  · simp only [DL.mSeq, DL.mAsg, DL.mAsgR, DL.mAsgM, DL.mrs, DL.ssets, DL.mIf, DL.mRet, DL.mRetN, DL.mrOf, DL.mrLst, DL.mrCat, DL.mrCall, DL.mDrop, DL.mNext, DL.mBreak, DL.mCont, DL.mC, DL.mVar, DL.mOp2, DL.mOp1, DL.mAnd, DL.mOr, DL.mNot, DL.mIfE, DL.mChain, DL.mNil, DL.mCons, DL.mTup, DL.mLst, DL.mCallB, DL.mDict0, DL.mPart, DL.mNoPart, DL.mSl, DL.mCall, DL.mCallK, DL.mCallW, DL.mLenScr, DL.mWell, DL.mT, DL.mTAnd, DL.mTOr, DL.mTNot, DL.mTYes, DL.mgName, DL.mgNil_n, DL.mgCons_c, DL.mgTup_t, DL.mgTup_l, DL.miSeq, DL.miRng1, DL.miRng2, DL.mRaise, DL.mApp, DL.mFor, DL.mLc, DL.mrLc, DL.sget, DL.sset, DL.slots0, DL.slotsW, DL.endP, DL.endW, DL.endL, DL.wF, DL.fz_va, DL.fz_own, List.length_cons, List.length_nil, List.map_cons, List.map_nil, List.replicate_succ, List.replicate_zero, Nat.reduceAdd, Nat.reduceSub, Nat.reduceLeDiff, List.cons_append, List.nil_append, Nat.zero_add, Nat.add_zero, Nat.sub_self, Option.some.injEq, PyData.bool.injEq, PyData.int.injEq, PyData.tuple.injEq, PyData.list.injEq, PyData.str.injEq, List.cons.injEq, DL.S.va.injEq, DL.S.own.injEq, DL.S.well.injEq, DL.S.scr.injEq, and_true, true_and, exists_eq_left', exists_eq_left, exists_eq_right, exists_eq_right', exists_and_left, exists_and_right, exists_eq, exists_eq', reduceCtorEq, false_and, and_false, exists_const, if_true, if_false, Bool.false_eq_true, reduceIte, Bool.not_true, Bool.not_false, DL.bIsi, List.any_cons, List.any_nil, Bool.or_false, Bool.or_true, Bool.false_or, Bool.true_or, DL.isK, DL.opAdd_i, DL.opSub_i, DL.opLt_i, DL.opLe_i, DL.opGt_i, DL.opGe_i, DL.opEq_int, DL.opNe_int, DL.opEq_b, DL.opNe_b, DL.opEq_nn, beq_self_eq_true, DL.opEq_str, DL.opNe_str, DL.opIsN_n, DL.opNotN_n, DL.isN, DL.opIsB_b, DL.opNotB_b, DL.opNeg_i, DL.bAbs_i, DL.bMax_i, DL.bMin_i, DL.bInt_i, DL.bGcd_i, DL.bLen_l, DL.bLen_t, DL.opAdd_t, DL.opAdd_l, DL.opIx_l, DL.opIx_t, DL.opSl_t, DL.opSl_l, DL.opRev_t, DL.opRev_l, DL.bList_l, DL.bList_t, DL.bTup_l, DL.bTup_t, DL.atI0, DL.atI1, DL.atI2, DL.atI3, DL.items_t, DL.items_l]
    exact ⟨6, rfl, by omega, by decide, by decide, fun a b n1 hn1 a1 a2 b1 b2 => ⟨_, rfl, h _ ⟨_, _, _, rfl, hn1, a1, by omega, b1, by omega⟩⟩⟩
  rintro _ ⟨a, b, n1, rfl, hn1, a1, a2, b1, b2⟩
  refine seq_run (fun s => ∃ x y p q' n2, s = [.well n2, .va (.tuple [.int a, .int b]), .va (.tuple [.int x, .int y, .int p, .int q']), .no, .no, .no, .no, .no, .no, .no] ∧ n ≤ n2 + 14 ∧ 0 ≤ x ∧ x ≤ a ∧ 0 ≤ y ∧ y ≤ b ∧ (-4 ≤ p ∧ p ≤ 4) ∧ (-4 ≤ q' ∧ q' ≤ 4) ∧ (p ≠ 0 ∨ q' ≠ 0)) (fun N h => ?_) ?_
  · simp only [DL.mSeq, DL.mAsg, DL.mAsgR, DL.mAsgM, DL.mrs, DL.ssets, DL.mIf, DL.mRet, DL.mRetN, DL.mrOf, DL.mrLst, DL.mrCat, DL.mrCall, DL.mDrop, DL.mNext, DL.mBreak, DL.mCont, DL.mC, DL.mVar, DL.mOp2, DL.mOp1, DL.mAnd, DL.mOr, DL.mNot, DL.mIfE, DL.mChain, DL.mNil, DL.mCons, DL.mTup, DL.mLst, DL.mCallB, DL.mDict0, DL.mPart, DL.mNoPart, DL.mSl, DL.mCall, DL.mCallK, DL.mCallW, DL.mLenScr, DL.mWell, DL.mT, DL.mTAnd, DL.mTOr, DL.mTNot, DL.mTYes, DL.mgName, DL.mgNil_n, DL.mgCons_c, DL.mgTup_t, DL.mgTup_l, DL.miSeq, DL.miRng1, DL.miRng2, DL.mRaise, DL.mApp, DL.mFor, DL.mLc, DL.mrLc, DL.sget, DL.sset, DL.slots0, DL.slotsW, DL.endP, DL.endW, DL.endL, DL.wF, DL.fz_va, DL.fz_own, List.length_cons, List.length_nil, List.map_cons, List.map_nil, List.replicate_succ, List.replicate_zero, Nat.reduceAdd, Nat.reduceSub, Nat.reduceLeDiff, List.cons_append, List.nil_append, Nat.zero_add, Nat.add_zero, Nat.sub_self, Option.some.injEq, PyData.bool.injEq, PyData.int.injEq, PyData.tuple.injEq, PyData.list.injEq, PyData.str.injEq, List.cons.injEq, DL.S.va.injEq, DL.S.own.injEq, DL.S.well.injEq, DL.S.scr.injEq, and_true, true_and, exists_eq_left', exists_eq_left, exists_eq_right, exists_eq_right', exists_and_left, exists_and_right, exists_eq, exists_eq', reduceCtorEq, false_and, and_false, exists_const, if_true, if_false, Bool.false_eq_true, reduceIte, Bool.not_true, Bool.not_false, DL.bIsi, List.any_cons, List.any_nil, Bool.or_false, Bool.or_true, Bool.false_or, Bool.true_or, DL.isK, DL.opAdd_i, DL.opSub_i, DL.opLt_i, DL.opLe_i, DL.opGt_i, DL.opGe_i, DL.opEq_int, DL.opNe_int, DL.opEq_b, DL.opNe_b, DL.opEq_nn, beq_self_eq_true, DL.opEq_str, DL.opNe_str, DL.opIsN_n, DL.opNotN_n, DL.isN, DL.opIsB_b, DL.opNotB_b, DL.opNeg_i, DL.bAbs_i, DL.bMax_i, DL.bMin_i, DL.bInt_i, DL.bGcd_i, DL.bLen_l, DL.bLen_t, DL.opAdd_t, DL.opAdd_l, DL.opIx_l, DL.opIx_t, DL.opSl_t, DL.opSl_l, DL.opRev_t, DL.opRev_l, DL.bList_l, DL.bList_t, DL.bTup_l, DL.bTup_t, DL.atI0, DL.atI1, DL.atI2, DL.atI3, DL.items_t, DL.items_l]
    exact ⟨a, b, 3, rfl, by omega, a1, by omega, b1, by omega, by decide, by decide, fun x y p q' n2 hn2 x0 x1 y0 y1 hp hq hpq => ⟨_, rfl, h _ ⟨_, _, _, _, _, rfl, by omega, x0, x1, y0, y1, ⟨by omega, by omega⟩, ⟨by omega, by omega⟩, hpq⟩⟩⟩
  rintro _ ⟨x, y, p, q', n2, rfl, hn2, x0, x1, y0, y1, hp, hq, w⟩
  have s20 : ∀ z : Int, -100 ≤ z → z ≤ 100 → sz 20 z := fun z h1 h2 => by unfold sz; omega
  have za := sz_mono (k := 20) (l := 200) (s20 a (by omega) (by omega)) (by decide)
  have zb := sz_mono (k := 20) (l := 200) (s20 b (by omega) (by omega)) (by decide)
  have zx := sz_mono (k := 20) (l := 200) (s20 x (by omega) (by omega)) (by decide)
  have zy := sz_mono (k := 20) (l := 200) (s20 y (by omega) (by omega)) (by decide)
  have zp := sz_mono (k := 20) (l := 200) (s20 p (by omega) (by omega)) (by decide)
  have zq := sz_mono (k := 20) (l := 200) (s20 q' (by omega) (by omega)) (by decide)
  have ok := Ls.of_ok a1 b1 x0 x1 y0 y1 w
  obtain ⟨sf, sw, sp0, sp1⟩ := start (v := p) a1 x0 x1
  obtain ⟨sf', sw', sq0, sq1⟩ := start (v := q') b1 y0 y1
  have gd := Ls.at_good (Ls.of a b x y p q') ok ⟨sp0, sp1⟩ ⟨sq0, sq1⟩
  have szt := Ls.at_sz (Ls.of a b x y p q') ok gd za zb (sz_lineVr zp) (sz_lineVr zq)
  have VV : ∀ n m : Int, 1 ≤ m → Nat.gcd n.natAbs m.natAbs = 1 → sz 300 n → sz 300 m → V a b x y p q' n m := fun n m hm hg zn zm => ⟨a1, b1, x0, x1, y0, y1, w, hm, hg, sz_mono za (by decide), sz_mono zb (by decide), sz_mono zx (by decide), sz_mono zy (by decide), sz_mono zp (by decide), sz_mono zq (by decide), zn, zm⟩
  refine seq_run (fun s => s = [.well n2, .va (.tuple [.int a, .int b]), .va (.tuple [.int x, .int y, .int p, .int q']), .va (.list ((Ls.of a b x y p q').rows 12)), .no, .no, .no, .no, .no, .no]) (fun N h => ?_) ?_
  · simp only [DL.mSeq, DL.mAsg, DL.mAsgR, DL.mAsgM, DL.mrs, DL.ssets, DL.mIf, DL.mRet, DL.mRetN, DL.mrOf, DL.mrLst, DL.mrCat, DL.mrCall, DL.mDrop, DL.mNext, DL.mBreak, DL.mCont, DL.mC, DL.mVar, DL.mOp2, DL.mOp1, DL.mAnd, DL.mOr, DL.mNot, DL.mIfE, DL.mChain, DL.mNil, DL.mCons, DL.mTup, DL.mLst, DL.mCallB, DL.mDict0, DL.mPart, DL.mNoPart, DL.mSl, DL.mCall, DL.mCallK, DL.mCallW, DL.mLenScr, DL.mWell, DL.mT, DL.mTAnd, DL.mTOr, DL.mTNot, DL.mTYes, DL.mgName, DL.mgNil_n, DL.mgCons_c, DL.mgTup_t, DL.mgTup_l, DL.miSeq, DL.miRng1, DL.miRng2, DL.mRaise, DL.mApp, DL.mFor, DL.mLc, DL.mrLc, DL.sget, DL.sset, DL.slots0, DL.slotsW, DL.endP, DL.endW, DL.endL, DL.wF, DL.fz_va, DL.fz_own, List.length_cons, List.length_nil, List.map_cons, List.map_nil, List.replicate_succ, List.replicate_zero, Nat.reduceAdd, Nat.reduceSub, Nat.reduceLeDiff, List.cons_append, List.nil_append, Nat.zero_add, Nat.add_zero, Nat.sub_self, Option.some.injEq, PyData.bool.injEq, PyData.int.injEq, PyData.tuple.injEq, PyData.list.injEq, PyData.str.injEq, List.cons.injEq, DL.S.va.injEq, DL.S.own.injEq, DL.S.well.injEq, DL.S.scr.injEq, and_true, true_and, exists_eq_left', exists_eq_left, exists_eq_right, exists_eq_right', exists_and_left, exists_and_right, exists_eq, exists_eq', reduceCtorEq, false_and, and_false, exists_const, if_true, if_false, Bool.false_eq_true, reduceIte, Bool.not_true, Bool.not_false, DL.bIsi, List.any_cons, List.any_nil, Bool.or_false, Bool.or_true, Bool.false_or, Bool.true_or, DL.isK, DL.opAdd_i, DL.opSub_i, DL.opLt_i, DL.opLe_i, DL.opGt_i, DL.opGe_i, DL.opEq_int, DL.opNe_int, DL.opEq_b, DL.opNe_b, DL.opEq_nn, beq_self_eq_true, DL.opEq_str, DL.opNe_str, DL.opIsN_n, DL.opNotN_n, DL.isN, DL.opIsB_b, DL.opNotB_b, DL.opNeg_i, DL.bAbs_i, DL.bMax_i, DL.bMin_i, DL.bInt_i, DL.bGcd_i, DL.bLen_l, DL.bLen_t, DL.opAdd_t, DL.opAdd_l, DL.opIx_l, DL.opIx_t, DL.opSl_t, DL.opSl_l, DL.opRev_t, DL.opRev_l, DL.bList_l, DL.bList_t, DL.bTup_l, DL.bTup_t, DL.atI0, DL.atI1, DL.atI2, DL.atI3, DL.items_t, DL.items_l]
    exact ⟨a, b, x, y, p, q', 12, rfl, a1, b1, x0, x1, y0, y1, w, za, zb, zp, zq, by decide, by decide, _, rfl, h _ rfl⟩
  rintro _ rfl
  have rowOf : ∀ d ∈ cutL ((Ls.of a b x y p q').rows 12) none (some 6), ∃ i : Nat, i < 12 ∧ d = (Ls.of a b x y p q').row ((Ls.of a b x y p q').at (i + 1)) := by
    intro d hd
    unfold cutL at hd
    have := List.mem_of_mem_drop (List.mem_of_mem_take hd)
    unfold Ls.rows at this
    obtain ⟨i, hi, rfl⟩ := List.mem_map.mp this
    exact ⟨i, List.mem_range.mp hi, rfl⟩
  have lenC : (cutL ((Ls.of a b x y p q').rows 12) none (some 6)).length ≤ 12 := by
    unfold cutL
    rw [List.length_take, List.length_drop]
    have : ((Ls.of a b x y p q').rows 12).length = 12 := by simp [Ls.rows]
    omega
  refine seq_run (fun s => ∃ ts n3, s = [.well n3, .va (.tuple [.int a, .int b]), .va (.tuple [.int x, .int y, .int p, .int q']), .va (.list ((Ls.of a b x y p q').rows 12)), .own ts, .no, .no, .no, .no, .no] ∧ n ≤ n3 + 15 ∧ ts.length ≤ 14 ∧ ∀ d ∈ ts, TimeOk d) (fun N h => ?_) ?_
  · simp only [DL.mSeq, DL.mAsg, DL.mAsgR, DL.mAsgM, DL.mrs, DL.ssets, DL.mIf, DL.mRet, DL.mRetN, DL.mrOf, DL.mrLst, DL.mrCat, DL.mrCall, DL.mDrop, DL.mNext, DL.mBreak, DL.mCont, DL.mC, DL.mVar, DL.mOp2, DL.mOp1, DL.mAnd, DL.mOr, DL.mNot, DL.mIfE, DL.mChain, DL.mNil, DL.mCons, DL.mTup, DL.mLst, DL.mCallB, DL.mDict0, DL.mPart, DL.mNoPart, DL.mSl, DL.mCall, DL.mCallK, DL.mCallW, DL.mLenScr, DL.mWell, DL.mT, DL.mTAnd, DL.mTOr, DL.mTNot, DL.mTYes, DL.mgName, DL.mgNil_n, DL.mgCons_c, DL.mgTup_t, DL.mgTup_l, DL.miSeq, DL.miRng1, DL.miRng2, DL.mRaise, DL.mApp, DL.mFor, DL.mLc, DL.mrLc, DL.sget, DL.sset, DL.slots0, DL.slotsW, DL.endP, DL.endW, DL.endL, DL.wF, DL.fz_va, DL.fz_own, List.length_cons, List.length_nil, List.map_cons, List.map_nil, List.replicate_succ, List.replicate_zero, Nat.reduceAdd, Nat.reduceSub, Nat.reduceLeDiff, List.cons_append, List.nil_append, Nat.zero_add, Nat.add_zero, Nat.sub_self, Option.some.injEq, PyData.bool.injEq, PyData.int.injEq, PyData.tuple.injEq, PyData.list.injEq, PyData.str.injEq, List.cons.injEq, DL.S.va.injEq, DL.S.own.injEq, DL.S.well.injEq, DL.S.scr.injEq, and_true, true_and, exists_eq_left', exists_eq_left, exists_eq_right, exists_eq_right', exists_and_left, exists_and_right, exists_eq, exists_eq', reduceCtorEq, false_and, and_false, exists_const, if_true, if_false, Bool.false_eq_true, reduceIte, Bool.not_true, Bool.not_false, DL.bIsi, List.any_cons, List.any_nil, Bool.or_false, Bool.or_true, Bool.false_or, Bool.true_or, DL.isK, DL.opAdd_i, DL.opSub_i, DL.opLt_i, DL.opLe_i, DL.opGt_i, DL.opGe_i, DL.opEq_int, DL.opNe_int, DL.opEq_b, DL.opNe_b, DL.opEq_nn, beq_self_eq_true, DL.opEq_str, DL.opNe_str, DL.opIsN_n, DL.opNotN_n, DL.isN, DL.opIsB_b, DL.opNotB_b, DL.opNeg_i, DL.bAbs_i, DL.bMax_i, DL.bMin_i, DL.bInt_i, DL.bGcd_i, DL.bLen_l, DL.bLen_t, DL.opAdd_t, DL.opAdd_l, DL.opIx_l, DL.opIx_t, DL.opSl_t, DL.opSl_l, DL.opRev_t, DL.opRev_l, DL.bList_l, DL.bList_t, DL.bTup_l, DL.bTup_t, DL.atI0, DL.atI1, DL.atI2, DL.atI3, DL.items_t, DL.items_l]
    refine ⟨rfl, ?_⟩
    refine lcL_run (fun s => ∃ x9, s = [.well n2, .va (.tuple [.int a, .int b]), .va (.tuple [.int x, .int y, .int p, .int q']), .va (.list ((Ls.of a b x y p q').rows 12)), .no, .no, .no, .no, .no, x9]) (fun d => opIx d (.int 0)) _ ?_ _ [] ⟨_, rfl⟩ (by simp only [List.length_nil]; omega) ?_
    · rintro d hd s ⟨x9, rfl⟩ Y N' hY hN'
      obtain ⟨i, hi, rfl⟩ := rowOf d hd
      simp only [swipe]
      simp only [DL.mSeq, DL.mAsg, DL.mAsgR, DL.mAsgM, DL.mrs, DL.ssets, DL.mIf, DL.mRet, DL.mRetN, DL.mrOf, DL.mrLst, DL.mrCat, DL.mrCall, DL.mDrop, DL.mNext, DL.mBreak, DL.mCont, DL.mC, DL.mVar, DL.mOp2, DL.mOp1, DL.mAnd, DL.mOr, DL.mNot, DL.mIfE, DL.mChain, DL.mNil, DL.mCons, DL.mTup, DL.mLst, DL.mCallB, DL.mDict0, DL.mPart, DL.mNoPart, DL.mSl, DL.mCall, DL.mCallK, DL.mCallW, DL.mLenScr, DL.mWell, DL.mT, DL.mTAnd, DL.mTOr, DL.mTNot, DL.mTYes, DL.mgName, DL.mgNil_n, DL.mgCons_c, DL.mgTup_t, DL.mgTup_l, DL.miSeq, DL.miRng1, DL.miRng2, DL.mRaise, DL.mApp, DL.mFor, DL.mLc, DL.mrLc, DL.sget, DL.sset, DL.slots0, DL.slotsW, DL.endP, DL.endW, DL.endL, DL.wF, DL.fz_va, DL.fz_own, List.length_cons, List.length_nil, List.map_cons, List.map_nil, List.replicate_succ, List.replicate_zero, Nat.reduceAdd, Nat.reduceSub, Nat.reduceLeDiff, List.cons_append, List.nil_append, Nat.zero_add, Nat.add_zero, Nat.sub_self, Option.some.injEq, PyData.bool.injEq, PyData.int.injEq, PyData.tuple.injEq, PyData.list.injEq, PyData.str.injEq, List.cons.injEq, DL.S.va.injEq, DL.S.own.injEq, DL.S.well.injEq, DL.S.scr.injEq, and_true, true_and, exists_eq_left', exists_eq_left, exists_eq_right, exists_eq_right', exists_and_left, exists_and_right, exists_eq, exists_eq', reduceCtorEq, false_and, and_false, exists_const, if_true, if_false, Bool.false_eq_true, reduceIte, Bool.not_true, Bool.not_false, DL.bIsi, List.any_cons, List.any_nil, Bool.or_false, Bool.or_true, Bool.false_or, Bool.true_or, DL.isK, DL.opAdd_i, DL.opSub_i, DL.opLt_i, DL.opLe_i, DL.opGt_i, DL.opGe_i, DL.opEq_int, DL.opNe_int, DL.opEq_b, DL.opNe_b, DL.opEq_nn, beq_self_eq_true, DL.opEq_str, DL.opNe_str, DL.opIsN_n, DL.opNotN_n, DL.isN, DL.opIsB_b, DL.opNotB_b, DL.opNeg_i, DL.bAbs_i, DL.bMax_i, DL.bMin_i, DL.bInt_i, DL.bGcd_i, DL.bLen_l, DL.bLen_t, DL.opAdd_t, DL.opAdd_l, DL.opIx_l, DL.opIx_t, DL.opSl_t, DL.opSl_l, DL.opRev_t, DL.opRev_l, DL.bList_l, DL.bList_t, DL.bTup_l, DL.bTup_t, DL.atI0, DL.atI1, DL.atI2, DL.atI3, DL.items_t, DL.items_l]
      exact ⟨_, rfl, hY _ _ rfl ⟨_, rfl⟩⟩
    · rintro s' ⟨x9, rfl⟩
      simp only [sback]
      simp only [DL.mSeq, DL.mAsg, DL.mAsgR, DL.mAsgM, DL.mrs, DL.ssets, DL.mIf, DL.mRet, DL.mRetN, DL.mrOf, DL.mrLst, DL.mrCat, DL.mrCall, DL.mDrop, DL.mNext, DL.mBreak, DL.mCont, DL.mC, DL.mVar, DL.mOp2, DL.mOp1, DL.mAnd, DL.mOr, DL.mNot, DL.mIfE, DL.mChain, DL.mNil, DL.mCons, DL.mTup, DL.mLst, DL.mCallB, DL.mDict0, DL.mPart, DL.mNoPart, DL.mSl, DL.mCall, DL.mCallK, DL.mCallW, DL.mLenScr, DL.mWell, DL.mT, DL.mTAnd, DL.mTOr, DL.mTNot, DL.mTYes, DL.mgName, DL.mgNil_n, DL.mgCons_c, DL.mgTup_t, DL.mgTup_l, DL.miSeq, DL.miRng1, DL.miRng2, DL.mRaise, DL.mApp, DL.mFor, DL.mLc, DL.mrLc, DL.sget, DL.sset, DL.slots0, DL.slotsW, DL.endP, DL.endW, DL.endL, DL.wF, DL.fz_va, DL.fz_own, List.length_cons, List.length_nil, List.map_cons, List.map_nil, List.replicate_succ, List.replicate_zero, Nat.reduceAdd, Nat.reduceSub, Nat.reduceLeDiff, List.cons_append, List.nil_append, Nat.zero_add, Nat.add_zero, Nat.sub_self, Option.some.injEq, PyData.bool.injEq, PyData.int.injEq, PyData.tuple.injEq, PyData.list.injEq, PyData.str.injEq, List.cons.injEq, DL.S.va.injEq, DL.S.own.injEq, DL.S.well.injEq, DL.S.scr.injEq, and_true, true_and, exists_eq_left', exists_eq_left, exists_eq_right, exists_eq_right', exists_and_left, exists_and_right, exists_eq, exists_eq', reduceCtorEq, false_and, and_false, exists_const, if_true, if_false, Bool.false_eq_true, reduceIte, Bool.not_true, Bool.not_false, DL.bIsi, List.any_cons, List.any_nil, Bool.or_false, Bool.or_true, Bool.false_or, Bool.true_or, DL.isK, DL.opAdd_i, DL.opSub_i, DL.opLt_i, DL.opLe_i, DL.opGt_i, DL.opGe_i, DL.opEq_int, DL.opNe_int, DL.opEq_b, DL.opNe_b, DL.opEq_nn, beq_self_eq_true, DL.opEq_str, DL.opNe_str, DL.opIsN_n, DL.opNotN_n, DL.isN, DL.opIsB_b, DL.opNotB_b, DL.opNeg_i, DL.bAbs_i, DL.bMax_i, DL.bMin_i, DL.bInt_i, DL.bGcd_i, DL.bLen_l, DL.bLen_t, DL.opAdd_t, DL.opAdd_l, DL.opIx_l, DL.opIx_t, DL.opSl_t, DL.opSl_l, DL.opRev_t, DL.opRev_l, DL.bList_l, DL.bList_t, DL.bTup_l, DL.bTup_t, DL.atI0, DL.atI1, DL.atI2, DL.atI3, DL.items_t, DL.items_l]
      have lf : (List.filterMap (fun d => opIx d (.int 0)) (cutL ((Ls.of a b x y p q').rows 12) none (some 6))).length ≤ 12 := Nat.le_trans (List.length_filterMap_le _ _) lenC
      refine dr (by omega) (by decide) (by decide) fun z p1 p2 => ⟨_, rfl, by omega, h _ ⟨_, _, rfl, by omega, by simp only [List.length_append, List.length_cons, List.length_nil]; omega, fun d hd => ?_⟩⟩
      rcases List.mem_append.mp hd with hd | hd
      · obtain ⟨e, he, hk⟩ := List.mem_filterMap.mp hd
        obtain ⟨i, hi, rfl⟩ := rowOf e he
        have hk : some (PyData.tuple [.int ((Ls.of a b x y p q').at (i + 1)).1, .int ((Ls.of a b x y p q').at (i + 1)).2]) = some d := hk
        cases hk
        exact ⟨_, _, rfl, (gd (i + 1)).n0, (gd (i + 1)).m1, (gd (i + 1)).g, sz_mono (szt (i + 1) (by omega)).1 (by decide), by
          have h := ((Ls.of a b x y p q').next_le ok (gd i)).2
          have e : (Ls.of a b x y p q').at (i + 1) = (Ls.of a b x y p q').next ((Ls.of a b x y p q').at i) := rfl
          rw [e]
          have e1 : (Ls.of a b x y p q').V = lineV p := rfl
          have e2 : (Ls.of a b x y p q').U = lineV q' := rfl
          have f1 : lineV p ≤ 4 := by unfold lineV; split <;> omega
          have f2 : lineV q' ≤ 4 := by unfold lineV; split <;> omega
          omega⟩
      · simp only [List.mem_cons, List.not_mem_nil, or_false] at hd
        rcases hd with rfl | rfl
        · exact ⟨0, 1, rfl, by decide, by decide, by decide, by unfold sz; decide, by decide⟩
        · exact ⟨z, 1, rfl, p1, by decide, Nat.gcd_one_right _, sz_mono (s20 z (by omega) (by omega)) (by decide), by decide⟩
  rintro _ ⟨ts, n3, rfl, hn3, ht1, ht2⟩
  refine seq_run (fun s => ∃ ts n3, s = [.well n3, .va (.tuple [.int a, .int b]), .va (.tuple [.int x, .int y, .int p, .int q']), .va (.list ((Ls.of a b x y p q').rows 12)), .own ts, .no, .no, .no, .no, .no] ∧ n ≤ n3 + 17 ∧ ts.length ≤ 15 ∧ ∀ d ∈ ts, TimeOk d) (fun N h => ?_) ?_
  · simp only [DL.mSeq, DL.mAsg, DL.mAsgR, DL.mAsgM, DL.mrs, DL.ssets, DL.mIf, DL.mRet, DL.mRetN, DL.mrOf, DL.mrLst, DL.mrCat, DL.mrCall, DL.mDrop, DL.mNext, DL.mBreak, DL.mCont, DL.mC, DL.mVar, DL.mOp2, DL.mOp1, DL.mAnd, DL.mOr, DL.mNot, DL.mIfE, DL.mChain, DL.mNil, DL.mCons, DL.mTup, DL.mLst, DL.mCallB, DL.mDict0, DL.mPart, DL.mNoPart, DL.mSl, DL.mCall, DL.mCallK, DL.mCallW, DL.mLenScr, DL.mWell, DL.mT, DL.mTAnd, DL.mTOr, DL.mTNot, DL.mTYes, DL.mgName, DL.mgNil_n, DL.mgCons_c, DL.mgTup_t, DL.mgTup_l, DL.miSeq, DL.miRng1, DL.miRng2, DL.mRaise, DL.mApp, DL.mFor, DL.mLc, DL.mrLc, DL.sget, DL.sset, DL.slots0, DL.slotsW, DL.endP, DL.endW, DL.endL, DL.wF, DL.fz_va, DL.fz_own, List.length_cons, List.length_nil, List.map_cons, List.map_nil, List.replicate_succ, List.replicate_zero, Nat.reduceAdd, Nat.reduceSub, Nat.reduceLeDiff, List.cons_append, List.nil_append, Nat.zero_add, Nat.add_zero, Nat.sub_self, Option.some.injEq, PyData.bool.injEq, PyData.int.injEq, PyData.tuple.injEq, PyData.list.injEq, PyData.str.injEq, List.cons.injEq, DL.S.va.injEq, DL.S.own.injEq, DL.S.well.injEq, DL.S.scr.injEq, and_true, true_and, exists_eq_left', exists_eq_left, exists_eq_right, exists_eq_right', exists_and_left, exists_and_right, exists_eq, exists_eq', reduceCtorEq, false_and, and_false, exists_const, if_true, if_false, Bool.false_eq_true, reduceIte, Bool.not_true, Bool.not_false, DL.bIsi, List.any_cons, List.any_nil, Bool.or_false, Bool.or_true, Bool.false_or, Bool.true_or, DL.isK, DL.opAdd_i, DL.opSub_i, DL.opLt_i, DL.opLe_i, DL.opGt_i, DL.opGe_i, DL.opEq_int, DL.opNe_int, DL.opEq_b, DL.opNe_b, DL.opEq_nn, beq_self_eq_true, DL.opEq_str, DL.opNe_str, DL.opIsN_n, DL.opNotN_n, DL.isN, DL.opIsB_b, DL.opNotB_b, DL.opNeg_i, DL.bAbs_i, DL.bMax_i, DL.bMin_i, DL.bInt_i, DL.bGcd_i, DL.bLen_l, DL.bLen_t, DL.opAdd_t, DL.opAdd_l, DL.opIx_l, DL.opIx_t, DL.opSl_t, DL.opSl_l, DL.opRev_t, DL.opRev_l, DL.bList_l, DL.bList_t, DL.bTup_l, DL.bTup_t, DL.atI0, DL.atI1, DL.atI2, DL.atI3, DL.items_t, DL.items_l]
    refine dr (by omega) (by decide) (by decide) fun z p1 p2 => ⟨_, rfl, ?_⟩
    refine dr (by omega) (by decide) (by decide) fun z' p3 p4 => ⟨_, rfl, _, rfl, ?_⟩
    have zz := sz_mono (l := 250) (s20 z (by omega) (by omega)) (by decide)
    have zz' := sz_mono (l := 250) (s20 (1 + z') (by omega) (by omega)) (by decide)
    refine ⟨z, 1 + z', rfl, by omega, sz_mono zz' (by decide), _, rfl, by omega, h _ ⟨_, _, rfl, by omega, by simp only [List.length_append, List.length_cons, List.length_nil]; omega, fun d hd => ?_⟩⟩
    rcases List.mem_append.mp hd with hd | hd
    · exact ht2 d hd
    · rw [List.mem_singleton.mp hd]
      exact low_time p1 (by omega) zz (by omega)
  rintro _ ⟨ts, n3, rfl, hn3, ht1, ht2⟩
  refine seq_run (fun s => ∃ n4 x4 x5 x6 x7 x8, s = [.well n4, .va (.tuple [.int a, .int b]), .va (.tuple [.int x, .int y, .int p, .int q']), .va (.list ((Ls.of a b x y p q').rows 12)), x4, x5, x6, x7, x8, .no] ∧ n ≤ n4 + 40) (fun N h => ?_) ?_
  · simp only [DL.mSeq, DL.mAsg, DL.mAsgR, DL.mAsgM, DL.mrs, DL.ssets, DL.mIf, DL.mRet, DL.mRetN, DL.mrOf, DL.mrLst, DL.mrCat, DL.mrCall, DL.mDrop, DL.mNext, DL.mBreak, DL.mCont, DL.mC, DL.mVar, DL.mOp2, DL.mOp1, DL.mAnd, DL.mOr, DL.mNot, DL.mIfE, DL.mChain, DL.mNil, DL.mCons, DL.mTup, DL.mLst, DL.mCallB, DL.mDict0, DL.mPart, DL.mNoPart, DL.mSl, DL.mCall, DL.mCallK, DL.mCallW, DL.mLenScr, DL.mWell, DL.mT, DL.mTAnd, DL.mTOr, DL.mTNot, DL.mTYes, DL.mgName, DL.mgNil_n, DL.mgCons_c, DL.mgTup_t, DL.mgTup_l, DL.miSeq, DL.miRng1, DL.miRng2, DL.mRaise, DL.mApp, DL.mFor, DL.mLc, DL.mrLc, DL.sget, DL.sset, DL.slots0, DL.slotsW, DL.endP, DL.endW, DL.endL, DL.wF, DL.fz_va, DL.fz_own, List.length_cons, List.length_nil, List.map_cons, List.map_nil, List.replicate_succ, List.replicate_zero, Nat.reduceAdd, Nat.reduceSub, Nat.reduceLeDiff, List.cons_append, List.nil_append, Nat.zero_add, Nat.add_zero, Nat.sub_self, Option.some.injEq, PyData.bool.injEq, PyData.int.injEq, PyData.tuple.injEq, PyData.list.injEq, PyData.str.injEq, List.cons.injEq, DL.S.va.injEq, DL.S.own.injEq, DL.S.well.injEq, DL.S.scr.injEq, and_true, true_and, exists_eq_left', exists_eq_left, exists_eq_right, exists_eq_right', exists_and_left, exists_and_right, exists_eq, exists_eq', reduceCtorEq, false_and, and_false, exists_const, if_true, if_false, Bool.false_eq_true, reduceIte, Bool.not_true, Bool.not_false, DL.bIsi, List.any_cons, List.any_nil, Bool.or_false, Bool.or_true, Bool.false_or, Bool.true_or, DL.isK, DL.opAdd_i, DL.opSub_i, DL.opLt_i, DL.opLe_i, DL.opGt_i, DL.opGe_i, DL.opEq_int, DL.opNe_int, DL.opEq_b, DL.opNe_b, DL.opEq_nn, beq_self_eq_true, DL.opEq_str, DL.opNe_str, DL.opIsN_n, DL.opNotN_n, DL.isN, DL.opIsB_b, DL.opNotB_b, DL.opNeg_i, DL.bAbs_i, DL.bMax_i, DL.bMin_i, DL.bInt_i, DL.bGcd_i, DL.bLen_l, DL.bLen_t, DL.opAdd_t, DL.opAdd_l, DL.opIx_l, DL.opIx_t, DL.opSl_t, DL.opSl_l, DL.opRev_t, DL.opRev_l, DL.bList_l, DL.bList_t, DL.bTup_l, DL.bTup_t, DL.atI0, DL.atI1, DL.atI2, DL.atI3, DL.items_t, DL.items_l]
    refine forL_run (fun r s => (∀ d ∈ r, TimeOk d) ∧ ∃ n4 x4 x5 x6 x7 x8, s = [.well n4, .va (.tuple [.int a, .int b]), .va (.tuple [.int x, .int y, .int p, .int q']), .va (.list ((Ls.of a b x y p q').rows 12)), x4, x5, x6, x7, x8, .no] ∧ n + r.length ≤ n4 + 40) ?_ ?_ _ _ ⟨ht2, _, _, _, _, _, _, rfl, by omega⟩
    · rintro d r s N' ⟨hd, n4, x4, x5, x6, x7, x8, rfl, hn4⟩ hN
      obtain ⟨n', m', rfl, n0, m1, g, zn, zm0⟩ := hd d (by simp)
      have zm : sz 7 m' := by unfold sz; omega
      have hd' := fun d h => hd d (List.mem_cons_of_mem _ h)
      simp only [List.length_cons] at hn4
      have v := VV n' m' m1 g (sz_mono zn (by decide)) (sz_mono zm (by decide))
      simp only [mgName, sset]
      refine seq_run (fun s => s = [.well n4, .va (.tuple [.int a, .int b]), .va (.tuple [.int x, .int y, .int p, .int q']), .va (.list ((Ls.of a b x y p q').rows 12)), x4, .va (.tuple [.int n', .int m']), x6, x7, x8, .no]) (fun N1 h1 => ?_) ?_
      · refine if_run false (fun Q h => ?_) (fun hc => by cases hc) (fun _ => h1 _ rfl)
        simp only [DL.mSeq, DL.mAsg, DL.mAsgR, DL.mAsgM, DL.mrs, DL.ssets, DL.mIf, DL.mRet, DL.mRetN, DL.mrOf, DL.mrLst, DL.mrCat, DL.mrCall, DL.mDrop, DL.mNext, DL.mBreak, DL.mCont, DL.mC, DL.mVar, DL.mOp2, DL.mOp1, DL.mAnd, DL.mOr, DL.mNot, DL.mIfE, DL.mChain, DL.mNil, DL.mCons, DL.mTup, DL.mLst, DL.mCallB, DL.mDict0, DL.mPart, DL.mNoPart, DL.mSl, DL.mCall, DL.mCallK, DL.mCallW, DL.mLenScr, DL.mWell, DL.mT, DL.mTAnd, DL.mTOr, DL.mTNot, DL.mTYes, DL.mgName, DL.mgNil_n, DL.mgCons_c, DL.mgTup_t, DL.mgTup_l, DL.miSeq, DL.miRng1, DL.miRng2, DL.mRaise, DL.mApp, DL.mFor, DL.mLc, DL.mrLc, DL.sget, DL.sset, DL.slots0, DL.slotsW, DL.endP, DL.endW, DL.endL, DL.wF, DL.fz_va, DL.fz_own, List.length_cons, List.length_nil, List.map_cons, List.map_nil, List.replicate_succ, List.replicate_zero, Nat.reduceAdd, Nat.reduceSub, Nat.reduceLeDiff, List.cons_append, List.nil_append, Nat.zero_add, Nat.add_zero, Nat.sub_self, Option.some.injEq, PyData.bool.injEq, PyData.int.injEq, PyData.tuple.injEq, PyData.list.injEq, PyData.str.injEq, List.cons.injEq, DL.S.va.injEq, DL.S.own.injEq, DL.S.well.injEq, DL.S.scr.injEq, and_true, true_and, exists_eq_left', exists_eq_left, exists_eq_right, exists_eq_right', exists_and_left, exists_and_right, exists_eq, exists_eq', reduceCtorEq, false_and, and_false, exists_const, if_true, if_false, Bool.false_eq_true, reduceIte, Bool.not_true, Bool.not_false, DL.bIsi, List.any_cons, List.any_nil, Bool.or_false, Bool.or_true, Bool.false_or, Bool.true_or, DL.isK, DL.opAdd_i, DL.opSub_i, DL.opLt_i, DL.opLe_i, DL.opGt_i, DL.opGe_i, DL.opEq_int, DL.opNe_int, DL.opEq_b, DL.opNe_b, DL.opEq_nn, beq_self_eq_true, DL.opEq_str, DL.opNe_str, DL.opIsN_n, DL.opNotN_n, DL.isN, DL.opIsB_b, DL.opNotB_b, DL.opNeg_i, DL.bAbs_i, DL.bMax_i, DL.bMin_i, DL.bInt_i, DL.bGcd_i, DL.bLen_l, DL.bLen_t, DL.opAdd_t, DL.opAdd_l, DL.opIx_l, DL.opIx_t, DL.opSl_t, DL.opSl_l, DL.opRev_t, DL.opRev_l, DL.bList_l, DL.bList_t, DL.bTup_l, DL.bTup_t, DL.atI0, DL.atI1, DL.atI2, DL.atI3, DL.items_t, DL.items_l]
        exact ⟨a, b, x, y, p, q', n', m', rfl, v, _, rfl, _, rfl, h⟩
      rintro _ rfl
      refine seq_run (fun s => ∃ e, (e = .none ∨ e = .tuple [.int (rW a (lineA p x) (lineV p) n' m'), .int (rW b (lineA q' y) (lineV q') n' m')]) ∧ s = [.well n4, .va (.tuple [.int a, .int b]), .va (.tuple [.int x, .int y, .int p, .int q']), .va (.list ((Ls.of a b x y p q').rows 12)), x4, .va (.tuple [.int n', .int m']), .va e, x7, x8, .no]) (fun N1 h1 => ?_) ?_
      · simp only [DL.mSeq, DL.mAsg, DL.mAsgR, DL.mAsgM, DL.mrs, DL.ssets, DL.mIf, DL.mRet, DL.mRetN, DL.mrOf, DL.mrLst, DL.mrCat, DL.mrCall, DL.mDrop, DL.mNext, DL.mBreak, DL.mCont, DL.mC, DL.mVar, DL.mOp2, DL.mOp1, DL.mAnd, DL.mOr, DL.mNot, DL.mIfE, DL.mChain, DL.mNil, DL.mCons, DL.mTup, DL.mLst, DL.mCallB, DL.mDict0, DL.mPart, DL.mNoPart, DL.mSl, DL.mCall, DL.mCallK, DL.mCallW, DL.mLenScr, DL.mWell, DL.mT, DL.mTAnd, DL.mTOr, DL.mTNot, DL.mTYes, DL.mgName, DL.mgNil_n, DL.mgCons_c, DL.mgTup_t, DL.mgTup_l, DL.miSeq, DL.miRng1, DL.miRng2, DL.mRaise, DL.mApp, DL.mFor, DL.mLc, DL.mrLc, DL.sget, DL.sset, DL.slots0, DL.slotsW, DL.endP, DL.endW, DL.endL, DL.wF, DL.fz_va, DL.fz_own, List.length_cons, List.length_nil, List.map_cons, List.map_nil, List.replicate_succ, List.replicate_zero, Nat.reduceAdd, Nat.reduceSub, Nat.reduceLeDiff, List.cons_append, List.nil_append, Nat.zero_add, Nat.add_zero, Nat.sub_self, Option.some.injEq, PyData.bool.injEq, PyData.int.injEq, PyData.tuple.injEq, PyData.list.injEq, PyData.str.injEq, List.cons.injEq, DL.S.va.injEq, DL.S.own.injEq, DL.S.well.injEq, DL.S.scr.injEq, and_true, true_and, exists_eq_left', exists_eq_left, exists_eq_right, exists_eq_right', exists_and_left, exists_and_right, exists_eq, exists_eq', reduceCtorEq, false_and, and_false, exists_const, if_true, if_false, Bool.false_eq_true, reduceIte, Bool.not_true, Bool.not_false, DL.bIsi, List.any_cons, List.any_nil, Bool.or_false, Bool.or_true, Bool.false_or, Bool.true_or, DL.isK, DL.opAdd_i, DL.opSub_i, DL.opLt_i, DL.opLe_i, DL.opGt_i, DL.opGe_i, DL.opEq_int, DL.opNe_int, DL.opEq_b, DL.opNe_b, DL.opEq_nn, beq_self_eq_true, DL.opEq_str, DL.opNe_str, DL.opIsN_n, DL.opNotN_n, DL.isN, DL.opIsB_b, DL.opNotB_b, DL.opNeg_i, DL.bAbs_i, DL.bMax_i, DL.bMin_i, DL.bInt_i, DL.bGcd_i, DL.bLen_l, DL.bLen_t, DL.opAdd_t, DL.opAdd_l, DL.opIx_l, DL.opIx_t, DL.opSl_t, DL.opSl_l, DL.opRev_t, DL.opRev_l, DL.bList_l, DL.bList_t, DL.bTup_l, DL.bTup_t, DL.atI0, DL.atI1, DL.atI2, DL.atI3, DL.items_t, DL.items_l]
        exact ⟨a, b, x, y, p, q', n', m', rfl, a1, b1, x0, x1, y0, y1, w, za, zb, zp, zq, n0, m1, sz_mono zn (by decide), sz_mono zm (by decide), ⟨_, rfl, h1 _ ⟨_, .inl rfl, rfl⟩⟩, ⟨_, rfl, h1 _ ⟨_, .inr rfl, rfl⟩⟩⟩
      rintro _ ⟨e, he, rfl⟩
      refine seq_run (fun s => s = [.well n4, .va (.tuple [.int a, .int b]), .va (.tuple [.int x, .int y, .int p, .int q']), .va (.list ((Ls.of a b x y p q').rows 12)), x4, .va (.tuple [.int n', .int m']), .va e, x7, x8, .no]) (fun N1 h1 => ?_) ?_
      · refine if_run false (fun Q h => ?_) (fun hc => by cases hc) (fun _ => h1 _ rfl)
        rcases he with rfl | rfl
        · simp only [DL.mSeq, DL.mAsg, DL.mAsgR, DL.mAsgM, DL.mrs, DL.ssets, DL.mIf, DL.mRet, DL.mRetN, DL.mrOf, DL.mrLst, DL.mrCat, DL.mrCall, DL.mDrop, DL.mNext, DL.mBreak, DL.mCont, DL.mC, DL.mVar, DL.mOp2, DL.mOp1, DL.mAnd, DL.mOr, DL.mNot, DL.mIfE, DL.mChain, DL.mNil, DL.mCons, DL.mTup, DL.mLst, DL.mCallB, DL.mDict0, DL.mPart, DL.mNoPart, DL.mSl, DL.mCall, DL.mCallK, DL.mCallW, DL.mLenScr, DL.mWell, DL.mT, DL.mTAnd, DL.mTOr, DL.mTNot, DL.mTYes, DL.mgName, DL.mgNil_n, DL.mgCons_c, DL.mgTup_t, DL.mgTup_l, DL.miSeq, DL.miRng1, DL.miRng2, DL.mRaise, DL.mApp, DL.mFor, DL.mLc, DL.mrLc, DL.sget, DL.sset, DL.slots0, DL.slotsW, DL.endP, DL.endW, DL.endL, DL.wF, DL.fz_va, DL.fz_own, List.length_cons, List.length_nil, List.map_cons, List.map_nil, List.replicate_succ, List.replicate_zero, Nat.reduceAdd, Nat.reduceSub, Nat.reduceLeDiff, List.cons_append, List.nil_append, Nat.zero_add, Nat.add_zero, Nat.sub_self, Option.some.injEq, PyData.bool.injEq, PyData.int.injEq, PyData.tuple.injEq, PyData.list.injEq, PyData.str.injEq, List.cons.injEq, DL.S.va.injEq, DL.S.own.injEq, DL.S.well.injEq, DL.S.scr.injEq, and_true, true_and, exists_eq_left', exists_eq_left, exists_eq_right, exists_eq_right', exists_and_left, exists_and_right, exists_eq, exists_eq', reduceCtorEq, false_and, and_false, exists_const, if_true, if_false, Bool.false_eq_true, reduceIte, Bool.not_true, Bool.not_false, DL.bIsi, List.any_cons, List.any_nil, Bool.or_false, Bool.or_true, Bool.false_or, Bool.true_or, DL.isK, DL.opAdd_i, DL.opSub_i, DL.opLt_i, DL.opLe_i, DL.opGt_i, DL.opGe_i, DL.opEq_int, DL.opNe_int, DL.opEq_b, DL.opNe_b, DL.opEq_nn, beq_self_eq_true, DL.opEq_str, DL.opNe_str, DL.opIsN_n, DL.opNotN_n, DL.isN, DL.opIsB_b, DL.opNotB_b, DL.opNeg_i, DL.bAbs_i, DL.bMax_i, DL.bMin_i, DL.bInt_i, DL.bGcd_i, DL.bLen_l, DL.bLen_t, DL.opAdd_t, DL.opAdd_l, DL.opIx_l, DL.opIx_t, DL.opSl_t, DL.opSl_l, DL.opRev_t, DL.opRev_l, DL.bList_l, DL.bList_t, DL.bTup_l, DL.bTup_t, DL.atI0, DL.atI1, DL.atI2, DL.atI3, DL.items_t, DL.items_l]
          exact h
        · simp only [DL.mSeq, DL.mAsg, DL.mAsgR, DL.mAsgM, DL.mrs, DL.ssets, DL.mIf, DL.mRet, DL.mRetN, DL.mrOf, DL.mrLst, DL.mrCat, DL.mrCall, DL.mDrop, DL.mNext, DL.mBreak, DL.mCont, DL.mC, DL.mVar, DL.mOp2, DL.mOp1, DL.mAnd, DL.mOr, DL.mNot, DL.mIfE, DL.mChain, DL.mNil, DL.mCons, DL.mTup, DL.mLst, DL.mCallB, DL.mDict0, DL.mPart, DL.mNoPart, DL.mSl, DL.mCall, DL.mCallK, DL.mCallW, DL.mLenScr, DL.mWell, DL.mT, DL.mTAnd, DL.mTOr, DL.mTNot, DL.mTYes, DL.mgName, DL.mgNil_n, DL.mgCons_c, DL.mgTup_t, DL.mgTup_l, DL.miSeq, DL.miRng1, DL.miRng2, DL.mRaise, DL.mApp, DL.mFor, DL.mLc, DL.mrLc, DL.sget, DL.sset, DL.slots0, DL.slotsW, DL.endP, DL.endW, DL.endL, DL.wF, DL.fz_va, DL.fz_own, List.length_cons, List.length_nil, List.map_cons, List.map_nil, List.replicate_succ, List.replicate_zero, Nat.reduceAdd, Nat.reduceSub, Nat.reduceLeDiff, List.cons_append, List.nil_append, Nat.zero_add, Nat.add_zero, Nat.sub_self, Option.some.injEq, PyData.bool.injEq, PyData.int.injEq, PyData.tuple.injEq, PyData.list.injEq, PyData.str.injEq, List.cons.injEq, DL.S.va.injEq, DL.S.own.injEq, DL.S.well.injEq, DL.S.scr.injEq, and_true, true_and, exists_eq_left', exists_eq_left, exists_eq_right, exists_eq_right', exists_and_left, exists_and_right, exists_eq, exists_eq', reduceCtorEq, false_and, and_false, exists_const, if_true, if_false, Bool.false_eq_true, reduceIte, Bool.not_true, Bool.not_false, DL.bIsi, List.any_cons, List.any_nil, Bool.or_false, Bool.or_true, Bool.false_or, Bool.true_or, DL.isK, DL.opAdd_i, DL.opSub_i, DL.opLt_i, DL.opLe_i, DL.opGt_i, DL.opGe_i, DL.opEq_int, DL.opNe_int, DL.opEq_b, DL.opNe_b, DL.opEq_nn, beq_self_eq_true, DL.opEq_str, DL.opNe_str, DL.opIsN_n, DL.opNotN_n, DL.isN, DL.opIsB_b, DL.opNotB_b, DL.opNeg_i, DL.bAbs_i, DL.bMax_i, DL.bMin_i, DL.bInt_i, DL.bGcd_i, DL.bLen_l, DL.bLen_t, DL.opAdd_t, DL.opAdd_l, DL.opIx_l, DL.opIx_t, DL.opSl_t, DL.opSl_l, DL.opRev_t, DL.opRev_l, DL.bList_l, DL.bList_t, DL.bTup_l, DL.bTup_t, DL.atI0, DL.atI1, DL.atI2, DL.atI3, DL.items_t, DL.items_l]
          refine v.way ⟨_, rfl, _, opNe_tt, _, rfl, ?_⟩
          have e1 : wayN a x p n' m' = rW a (lineA p x) (lineV p) n' m' := rfl
          have e2 : wayN b y q' n' m' = rW b (lineA q' y) (lineV q') n' m' := rfl
          rw [e1, e2]
          simpa using h
      rintro _ rfl
      refine seq_run (fun s => ∃ k n5, (-100000000000000000000000000000 ≤ k ∧ k < 1000000000000000000000000000000) ∧ s = [.well n5, .va (.tuple [.int a, .int b]), .va (.tuple [.int x, .int y, .int p, .int q']), .va (.list ((Ls.of a b x y p q').rows 12)), x4, .va (.tuple [.int n', .int m']), .va e, .va (.int (4 * a * b * k)), x8, .no] ∧ n4 = n5 + 1) (fun N1 h1 => ?_) ?_
      · simp only [DL.mSeq, DL.mAsg, DL.mAsgR, DL.mAsgM, DL.mrs, DL.ssets, DL.mIf, DL.mRet, DL.mRetN, DL.mrOf, DL.mrLst, DL.mrCat, DL.mrCall, DL.mDrop, DL.mNext, DL.mBreak, DL.mCont, DL.mC, DL.mVar, DL.mOp2, DL.mOp1, DL.mAnd, DL.mOr, DL.mNot, DL.mIfE, DL.mChain, DL.mNil, DL.mCons, DL.mTup, DL.mLst, DL.mCallB, DL.mDict0, DL.mPart, DL.mNoPart, DL.mSl, DL.mCall, DL.mCallK, DL.mCallW, DL.mLenScr, DL.mWell, DL.mT, DL.mTAnd, DL.mTOr, DL.mTNot, DL.mTYes, DL.mgName, DL.mgNil_n, DL.mgCons_c, DL.mgTup_t, DL.mgTup_l, DL.miSeq, DL.miRng1, DL.miRng2, DL.mRaise, DL.mApp, DL.mFor, DL.mLc, DL.mrLc, DL.sget, DL.sset, DL.slots0, DL.slotsW, DL.endP, DL.endW, DL.endL, DL.wF, DL.fz_va, DL.fz_own, List.length_cons, List.length_nil, List.map_cons, List.map_nil, List.replicate_succ, List.replicate_zero, Nat.reduceAdd, Nat.reduceSub, Nat.reduceLeDiff, List.cons_append, List.nil_append, Nat.zero_add, Nat.add_zero, Nat.sub_self, Option.some.injEq, PyData.bool.injEq, PyData.int.injEq, PyData.tuple.injEq, PyData.list.injEq, PyData.str.injEq, List.cons.injEq, DL.S.va.injEq, DL.S.own.injEq, DL.S.well.injEq, DL.S.scr.injEq, and_true, true_and, exists_eq_left', exists_eq_left, exists_eq_right, exists_eq_right', exists_and_left, exists_and_right, exists_eq, exists_eq', reduceCtorEq, false_and, and_false, exists_const, if_true, if_false, Bool.false_eq_true, reduceIte, Bool.not_true, Bool.not_false, DL.bIsi, List.any_cons, List.any_nil, Bool.or_false, Bool.or_true, Bool.false_or, Bool.true_or, DL.isK, DL.opAdd_i, DL.opSub_i, DL.opLt_i, DL.opLe_i, DL.opGt_i, DL.opGe_i, DL.opEq_int, DL.opNe_int, DL.opEq_b, DL.opNe_b, DL.opEq_nn, beq_self_eq_true, DL.opEq_str, DL.opNe_str, DL.opIsN_n, DL.opNotN_n, DL.isN, DL.opIsB_b, DL.opNotB_b, DL.opNeg_i, DL.bAbs_i, DL.bMax_i, DL.bMin_i, DL.bInt_i, DL.bGcd_i, DL.bLen_l, DL.bLen_t, DL.opAdd_t, DL.opAdd_l, DL.opIx_l, DL.opIx_t, DL.opSl_t, DL.opSl_l, DL.opRev_t, DL.opRev_l, DL.bList_l, DL.bList_t, DL.bTup_l, DL.bTup_t, DL.atI0, DL.atI1, DL.atI2, DL.atI3, DL.items_t, DL.items_l]
        have p30 : opPow (.int 10) (.int 30) = some (.int (10 ^ Int.toNat 30)) := by rw [opPow_i, if_pos ⟨by decide, by decide, big10⟩]
        have p29 : opPow (.int 10) (.int 29) = some (.int (10 ^ Int.toNat 29)) := by rw [opPow_i, if_pos ⟨by decide, by decide, big10⟩]
        have e30 : (10 : Int) ^ Int.toNat 30 = 1000000000000000000000000000000 := by decide +kernel
        have e29 : (10 : Int) ^ Int.toNat 29 = 100000000000000000000000000000 := by decide +kernel
        rw [e30] at p30
        rw [e29] at p29
        have z4 := s20 4 (by decide) (by decide)
        have za' := s20 a (by omega) (by omega)
        have zb' := s20 b (by omega) (by omega)
        refine ⟨_, opMul_ok z4 za' (by decide), _, opMul_ok (sz_mul z4 za') zb' (by decide), _, p30, dr (by omega) (by decide) (by decide) fun z p5 p6 => ⟨_, rfl, _, p29, _, rfl, ?_⟩⟩
        have zk : sz 100 (z - 100000000000000000000000000000) := by unfold sz; omega
        exact ⟨_, opMul_ok (sz_mul (sz_mul z4 za') zb') zk (by decide), h1 _ ⟨_, _, ⟨by omega, by omega⟩, rfl, by omega⟩⟩
      rintro _ ⟨k, n5, hk, rfl, hn5⟩
      have z4 := s20 4 (by decide) (by decide)
      have za' := s20 a (by omega) (by omega)
      have zb' := s20 b (by omega) (by omega)
      have zk : sz 100 k := by unfold sz; omega
      have zf : sz 160 (4 * a * b * k) := sz_mul (sz_mul (sz_mul z4 za') zb') zk
      have zfm : sz 167 (4 * a * b * k * m') := sz_mul zf zm
      have gl : Nat.gcd (n' + 4 * a * b * k * m').natAbs m'.natAbs = 1 := by
        rw [← g]
        exact gcd_lin (T := n') (R := n' + 4 * a * b * k * m') (B := m') (k := 4 * a * b * k) (.inl (by rw [Int.mul_comm m']))
      have zl : sz 251 (n' + 4 * a * b * k * m') := sz_add zn (sz_mono zfm (by decide))
      have v2 := VV (n' + 4 * a * b * k * m') m' m1 gl (sz_mono zl (by decide)) (sz_mono zm (by decide))
      refine seq_run (fun s => s = [.well n5, .va (.tuple [.int a, .int b]), .va (.tuple [.int x, .int y, .int p, .int q']), .va (.list ((Ls.of a b x y p q').rows 12)), x4, .va (.tuple [.int n', .int m']), .va e, .va (.int (4 * a * b * k)), .va (.tuple [.int (n' + 4 * a * b * k * m'), .int m']), .no]) (fun N1 h1 => ?_) ?_
      · simp only [DL.mSeq, DL.mAsg, DL.mAsgR, DL.mAsgM, DL.mrs, DL.ssets, DL.mIf, DL.mRet, DL.mRetN, DL.mrOf, DL.mrLst, DL.mrCat, DL.mrCall, DL.mDrop, DL.mNext, DL.mBreak, DL.mCont, DL.mC, DL.mVar, DL.mOp2, DL.mOp1, DL.mAnd, DL.mOr, DL.mNot, DL.mIfE, DL.mChain, DL.mNil, DL.mCons, DL.mTup, DL.mLst, DL.mCallB, DL.mDict0, DL.mPart, DL.mNoPart, DL.mSl, DL.mCall, DL.mCallK, DL.mCallW, DL.mLenScr, DL.mWell, DL.mT, DL.mTAnd, DL.mTOr, DL.mTNot, DL.mTYes, DL.mgName, DL.mgNil_n, DL.mgCons_c, DL.mgTup_t, DL.mgTup_l, DL.miSeq, DL.miRng1, DL.miRng2, DL.mRaise, DL.mApp, DL.mFor, DL.mLc, DL.mrLc, DL.sget, DL.sset, DL.slots0, DL.slotsW, DL.endP, DL.endW, DL.endL, DL.wF, DL.fz_va, DL.fz_own, List.length_cons, List.length_nil, List.map_cons, List.map_nil, List.replicate_succ, List.replicate_zero, Nat.reduceAdd, Nat.reduceSub, Nat.reduceLeDiff, List.cons_append, List.nil_append, Nat.zero_add, Nat.add_zero, Nat.sub_self, Option.some.injEq, PyData.bool.injEq, PyData.int.injEq, PyData.tuple.injEq, PyData.list.injEq, PyData.str.injEq, List.cons.injEq, DL.S.va.injEq, DL.S.own.injEq, DL.S.well.injEq, DL.S.scr.injEq, and_true, true_and, exists_eq_left', exists_eq_left, exists_eq_right, exists_eq_right', exists_and_left, exists_and_right, exists_eq, exists_eq', reduceCtorEq, false_and, and_false, exists_const, if_true, if_false, Bool.false_eq_true, reduceIte, Bool.not_true, Bool.not_false, DL.bIsi, List.any_cons, List.any_nil, Bool.or_false, Bool.or_true, Bool.false_or, Bool.true_or, DL.isK, DL.opAdd_i, DL.opSub_i, DL.opLt_i, DL.opLe_i, DL.opGt_i, DL.opGe_i, DL.opEq_int, DL.opNe_int, DL.opEq_b, DL.opNe_b, DL.opEq_nn, beq_self_eq_true, DL.opEq_str, DL.opNe_str, DL.opIsN_n, DL.opNotN_n, DL.isN, DL.opIsB_b, DL.opNotB_b, DL.opNeg_i, DL.bAbs_i, DL.bMax_i, DL.bMin_i, DL.bInt_i, DL.bGcd_i, DL.bLen_l, DL.bLen_t, DL.opAdd_t, DL.opAdd_l, DL.opIx_l, DL.opIx_t, DL.opSl_t, DL.opSl_l, DL.opRev_t, DL.opRev_l, DL.bList_l, DL.bList_t, DL.bTup_l, DL.bTup_t, DL.atI0, DL.atI1, DL.atI2, DL.atI3, DL.items_t, DL.items_l]
        refine ⟨_, opMul_ok zf zm (by decide), _, rfl, _, _, rfl, m1, sz_mono zm (by decide), _, rfl, ?_⟩
        have e3 : fracD (n' + 4 * a * b * k * m') m' = .tuple [.int (n' + 4 * a * b * k * m'), .int m'] := by
          unfold fracD
          rw [gl]
          simp
        rw [e3]
        exact h1 _ rfl
      rintro _ rfl
      refine seq_run (fun s => s = [.well n5, .va (.tuple [.int a, .int b]), .va (.tuple [.int x, .int y, .int p, .int q']), .va (.list ((Ls.of a b x y p q').rows 12)), x4, .va (.tuple [.int n', .int m']), .va e, .va (.int (4 * a * b * k)), .va (.tuple [.int (n' + 4 * a * b * k * m'), .int m']), .no]) (fun N1 h1 => ?_) ?_
      · refine if_run false (fun Q h => ?_) (fun hc => by cases hc) (fun _ => h1 _ rfl)
        simp only [DL.mSeq, DL.mAsg, DL.mAsgR, DL.mAsgM, DL.mrs, DL.ssets, DL.mIf, DL.mRet, DL.mRetN, DL.mrOf, DL.mrLst, DL.mrCat, DL.mrCall, DL.mDrop, DL.mNext, DL.mBreak, DL.mCont, DL.mC, DL.mVar, DL.mOp2, DL.mOp1, DL.mAnd, DL.mOr, DL.mNot, DL.mIfE, DL.mChain, DL.mNil, DL.mCons, DL.mTup, DL.mLst, DL.mCallB, DL.mDict0, DL.mPart, DL.mNoPart, DL.mSl, DL.mCall, DL.mCallK, DL.mCallW, DL.mLenScr, DL.mWell, DL.mT, DL.mTAnd, DL.mTOr, DL.mTNot, DL.mTYes, DL.mgName, DL.mgNil_n, DL.mgCons_c, DL.mgTup_t, DL.mgTup_l, DL.miSeq, DL.miRng1, DL.miRng2, DL.mRaise, DL.mApp, DL.mFor, DL.mLc, DL.mrLc, DL.sget, DL.sset, DL.slots0, DL.slotsW, DL.endP, DL.endW, DL.endL, DL.wF, DL.fz_va, DL.fz_own, List.length_cons, List.length_nil, List.map_cons, List.map_nil, List.replicate_succ, List.replicate_zero, Nat.reduceAdd, Nat.reduceSub, Nat.reduceLeDiff, List.cons_append, List.nil_append, Nat.zero_add, Nat.add_zero, Nat.sub_self, Option.some.injEq, PyData.bool.injEq, PyData.int.injEq, PyData.tuple.injEq, PyData.list.injEq, PyData.str.injEq, List.cons.injEq, DL.S.va.injEq, DL.S.own.injEq, DL.S.well.injEq, DL.S.scr.injEq, and_true, true_and, exists_eq_left', exists_eq_left, exists_eq_right, exists_eq_right', exists_and_left, exists_and_right, exists_eq, exists_eq', reduceCtorEq, false_and, and_false, exists_const, if_true, if_false, Bool.false_eq_true, reduceIte, Bool.not_true, Bool.not_false, DL.bIsi, List.any_cons, List.any_nil, Bool.or_false, Bool.or_true, Bool.false_or, Bool.true_or, DL.isK, DL.opAdd_i, DL.opSub_i, DL.opLt_i, DL.opLe_i, DL.opGt_i, DL.opGe_i, DL.opEq_int, DL.opNe_int, DL.opEq_b, DL.opNe_b, DL.opEq_nn, beq_self_eq_true, DL.opEq_str, DL.opNe_str, DL.opIsN_n, DL.opNotN_n, DL.isN, DL.opIsB_b, DL.opNotB_b, DL.opNeg_i, DL.bAbs_i, DL.bMax_i, DL.bMin_i, DL.bInt_i, DL.bGcd_i, DL.bLen_l, DL.bLen_t, DL.opAdd_t, DL.opAdd_l, DL.opIx_l, DL.opIx_t, DL.opSl_t, DL.opSl_l, DL.opRev_t, DL.opRev_l, DL.bList_l, DL.bList_t, DL.bTup_l, DL.bTup_t, DL.atI0, DL.atI1, DL.atI2, DL.atI3, DL.items_t, DL.items_l]
        exact ⟨a, b, x, y, p, q', _, m', rfl, v2, _, rfl, _, rfl, h⟩
      rintro _ rfl
      refine if_run false (fun Q h => ?_) (fun hc => by cases hc) (fun _ => hN _ ⟨hd', _, _, _, _, _, _, rfl, by omega⟩)
      simp only [DL.mSeq, DL.mAsg, DL.mAsgR, DL.mAsgM, DL.mrs, DL.ssets, DL.mIf, DL.mRet, DL.mRetN, DL.mrOf, DL.mrLst, DL.mrCat, DL.mrCall, DL.mDrop, DL.mNext, DL.mBreak, DL.mCont, DL.mC, DL.mVar, DL.mOp2, DL.mOp1, DL.mAnd, DL.mOr, DL.mNot, DL.mIfE, DL.mChain, DL.mNil, DL.mCons, DL.mTup, DL.mLst, DL.mCallB, DL.mDict0, DL.mPart, DL.mNoPart, DL.mSl, DL.mCall, DL.mCallK, DL.mCallW, DL.mLenScr, DL.mWell, DL.mT, DL.mTAnd, DL.mTOr, DL.mTNot, DL.mTYes, DL.mgName, DL.mgNil_n, DL.mgCons_c, DL.mgTup_t, DL.mgTup_l, DL.miSeq, DL.miRng1, DL.miRng2, DL.mRaise, DL.mApp, DL.mFor, DL.mLc, DL.mrLc, DL.sget, DL.sset, DL.slots0, DL.slotsW, DL.endP, DL.endW, DL.endL, DL.wF, DL.fz_va, DL.fz_own, List.length_cons, List.length_nil, List.map_cons, List.map_nil, List.replicate_succ, List.replicate_zero, Nat.reduceAdd, Nat.reduceSub, Nat.reduceLeDiff, List.cons_append, List.nil_append, Nat.zero_add, Nat.add_zero, Nat.sub_self, Option.some.injEq, PyData.bool.injEq, PyData.int.injEq, PyData.tuple.injEq, PyData.list.injEq, PyData.str.injEq, List.cons.injEq, DL.S.va.injEq, DL.S.own.injEq, DL.S.well.injEq, DL.S.scr.injEq, and_true, true_and, exists_eq_left', exists_eq_left, exists_eq_right, exists_eq_right', exists_and_left, exists_and_right, exists_eq, exists_eq', reduceCtorEq, false_and, and_false, exists_const, if_true, if_false, Bool.false_eq_true, reduceIte, Bool.not_true, Bool.not_false, DL.bIsi, List.any_cons, List.any_nil, Bool.or_false, Bool.or_true, Bool.false_or, Bool.true_or, DL.isK, DL.opAdd_i, DL.opSub_i, DL.opLt_i, DL.opLe_i, DL.opGt_i, DL.opGe_i, DL.opEq_int, DL.opNe_int, DL.opEq_b, DL.opNe_b, DL.opEq_nn, beq_self_eq_true, DL.opEq_str, DL.opNe_str, DL.opIsN_n, DL.opNotN_n, DL.isN, DL.opIsB_b, DL.opNotB_b, DL.opNeg_i, DL.bAbs_i, DL.bMax_i, DL.bMin_i, DL.bInt_i, DL.bGcd_i, DL.bLen_l, DL.bLen_t, DL.opAdd_t, DL.opAdd_l, DL.opIx_l, DL.opIx_t, DL.opSl_t, DL.opSl_l, DL.opRev_t, DL.opRev_l, DL.bList_l, DL.bList_t, DL.bTup_l, DL.bTup_t, DL.atI0, DL.atI1, DL.atI2, DL.atI3, DL.items_t, DL.items_l]
      refine v2.way ⟨_, rfl, v.way ⟨_, rfl, _, opNe_tt, _, rfl, ?_⟩⟩
      have w1 : wayN a x p (n' + 4 * a * b * k * m') m' = wayN a x p n' m' := by
        have := way_far (s := a) (A := lineA p x) (V := lineV p) (n := n') (k := 2 * b * k) a1 m1
        rw [show 2 * a * (2 * b * k) * m' = 4 * a * b * k * m' by grind] at this
        exact this
      have w2 : wayN b y q' (n' + 4 * a * b * k * m') m' = wayN b y q' n' m' := by
        have := way_far (s := b) (A := lineA q' y) (V := lineV q') (n := n') (k := 2 * a * k) b1 m1
        rw [show 2 * b * (2 * a * k) * m' = 4 * a * b * k * m' by grind] at this
        exact this
      rw [w1, w2]
      simpa using h
    · rintro s ⟨-, n4, x4, x5, x6, x7, x8, rfl, hn4⟩
      exact h _ ⟨_, _, _, _, _, _, rfl, by simpa using hn4⟩
  rintro _ ⟨n4, x4, x5, x6, x7, x8, rfl, hn4⟩
  simp only [DL.mSeq, DL.mAsg, DL.mAsgR, DL.mAsgM, DL.mrs, DL.ssets, DL.mIf, DL.mRet, DL.mRetN, DL.mrOf, DL.mrLst, DL.mrCat, DL.mrCall, DL.mDrop, DL.mNext, DL.mBreak, DL.mCont, DL.mC, DL.mVar, DL.mOp2, DL.mOp1, DL.mAnd, DL.mOr, DL.mNot, DL.mIfE, DL.mChain, DL.mNil, DL.mCons, DL.mTup, DL.mLst, DL.mCallB, DL.mDict0, DL.mPart, DL.mNoPart, DL.mSl, DL.mCall, DL.mCallK, DL.mCallW, DL.mLenScr, DL.mWell, DL.mT, DL.mTAnd, DL.mTOr, DL.mTNot, DL.mTYes, DL.mgName, DL.mgNil_n, DL.mgCons_c, DL.mgTup_t, DL.mgTup_l, DL.miSeq, DL.miRng1, DL.miRng2, DL.mRaise, DL.mApp, DL.mFor, DL.mLc, DL.mrLc, DL.sget, DL.sset, DL.slots0, DL.slotsW, DL.endP, DL.endW, DL.endL, DL.wF, DL.fz_va, DL.fz_own, List.length_cons, List.length_nil, List.map_cons, List.map_nil, List.replicate_succ, List.replicate_zero, Nat.reduceAdd, Nat.reduceSub, Nat.reduceLeDiff, List.cons_append, List.nil_append, Nat.zero_add, Nat.add_zero, Nat.sub_self, Option.some.injEq, PyData.bool.injEq, PyData.int.injEq, PyData.tuple.injEq, PyData.list.injEq, PyData.str.injEq, List.cons.injEq, DL.S.va.injEq, DL.S.own.injEq, DL.S.well.injEq, DL.S.scr.injEq, and_true, true_and, exists_eq_left', exists_eq_left, exists_eq_right, exists_eq_right', exists_and_left, exists_and_right, exists_eq, exists_eq', reduceCtorEq, false_and, and_false, exists_const, if_true, if_false, Bool.false_eq_true, reduceIte, Bool.not_true, Bool.not_false, DL.bIsi, List.any_cons, List.any_nil, Bool.or_false, Bool.or_true, Bool.false_or, Bool.true_or, DL.isK, DL.opAdd_i, DL.opSub_i, DL.opLt_i, DL.opLe_i, DL.opGt_i, DL.opGe_i, DL.opEq_int, DL.opNe_int, DL.opEq_b, DL.opNe_b, DL.opEq_nn, beq_self_eq_true, DL.opEq_str, DL.opNe_str, DL.opIsN_n, DL.opNotN_n, DL.isN, DL.opIsB_b, DL.opNotB_b, DL.opNeg_i, DL.bAbs_i, DL.bMax_i, DL.bMin_i, DL.bInt_i, DL.bGcd_i, DL.bLen_l, DL.bLen_t, DL.opAdd_t, DL.opAdd_l, DL.opIx_l, DL.opIx_t, DL.opSl_t, DL.opSl_l, DL.opRev_t, DL.opRev_l, DL.bList_l, DL.bList_t, DL.bTup_l, DL.bTup_t, DL.atI0, DL.atI1, DL.atI2, DL.atI3, DL.items_t, DL.items_l]
  refine ⟨rfl, ?_⟩
  have pl : ∀ t : Int × Int, 1 ≤ t.2 → PyData.tuple [placeN a x p t.1 t.2, placeN b y q' t.1 t.2] = (Ls.of a b x y p q').place t := by
    intro t ht
    rw [(place_frac a1 ht).1, (place_frac b1 ht).1, rF_fold a1 ht, rF_fold b1 ht]
    rfl
  have ixs : ∀ (x4 x5 x6 x7 x8 : S) (Q' : List PyData → DSt → Prop), (∀ x9, Q' ((cutL ((Ls.of a b x y p q').rows 12) none (some 6)).filterMap fun d => opIx d (.int 2)) [.well n4, .va (.tuple [.int a, .int b]), .va (.tuple [.int x, .int y, .int p, .int q']), .va (.list ((Ls.of a b x y p q').rows 12)), x4, x5, x6, x7, x8, x9]) → ∀ x9, lcL (mgName 9) mTYes (mOp2 opIx (mVar 9) (mC (.int 2))) [9] Q' (cutL ((Ls.of a b x y p q').rows 12) none (some 6)) [.well n4, .va (.tuple [.int a, .int b]), .va (.tuple [.int x, .int y, .int p, .int q']), .va (.list ((Ls.of a b x y p q').rows 12)), x4, x5, x6, x7, x8, x9] [] := by
    intro x4 x5 x6 x7 x8 Q' hq x9
    refine lcL_run (fun s => ∃ x9, s = [.well n4, .va (.tuple [.int a, .int b]), .va (.tuple [.int x, .int y, .int p, .int q']), .va (.list ((Ls.of a b x y p q').rows 12)), x4, x5, x6, x7, x8, x9]) (fun d => opIx d (.int 2)) _ ?_ _ [] ⟨_, rfl⟩ (by simp only [List.length_nil]; omega) ?_
    · rintro d hd s ⟨x9, rfl⟩ Y N' hY hN'
      obtain ⟨i, hi, rfl⟩ := rowOf d hd
      simp only [swipe]
      simp only [DL.mSeq, DL.mAsg, DL.mAsgR, DL.mAsgM, DL.mrs, DL.ssets, DL.mIf, DL.mRet, DL.mRetN, DL.mrOf, DL.mrLst, DL.mrCat, DL.mrCall, DL.mDrop, DL.mNext, DL.mBreak, DL.mCont, DL.mC, DL.mVar, DL.mOp2, DL.mOp1, DL.mAnd, DL.mOr, DL.mNot, DL.mIfE, DL.mChain, DL.mNil, DL.mCons, DL.mTup, DL.mLst, DL.mCallB, DL.mDict0, DL.mPart, DL.mNoPart, DL.mSl, DL.mCall, DL.mCallK, DL.mCallW, DL.mLenScr, DL.mWell, DL.mT, DL.mTAnd, DL.mTOr, DL.mTNot, DL.mTYes, DL.mgName, DL.mgNil_n, DL.mgCons_c, DL.mgTup_t, DL.mgTup_l, DL.miSeq, DL.miRng1, DL.miRng2, DL.mRaise, DL.mApp, DL.mFor, DL.mLc, DL.mrLc, DL.sget, DL.sset, DL.slots0, DL.slotsW, DL.endP, DL.endW, DL.endL, DL.wF, DL.fz_va, DL.fz_own, List.length_cons, List.length_nil, List.map_cons, List.map_nil, List.replicate_succ, List.replicate_zero, Nat.reduceAdd, Nat.reduceSub, Nat.reduceLeDiff, List.cons_append, List.nil_append, Nat.zero_add, Nat.add_zero, Nat.sub_self, Option.some.injEq, PyData.bool.injEq, PyData.int.injEq, PyData.tuple.injEq, PyData.list.injEq, PyData.str.injEq, List.cons.injEq, DL.S.va.injEq, DL.S.own.injEq, DL.S.well.injEq, DL.S.scr.injEq, and_true, true_and, exists_eq_left', exists_eq_left, exists_eq_right, exists_eq_right', exists_and_left, exists_and_right, exists_eq, exists_eq', reduceCtorEq, false_and, and_false, exists_const, if_true, if_false, Bool.false_eq_true, reduceIte, Bool.not_true, Bool.not_false, DL.bIsi, List.any_cons, List.any_nil, Bool.or_false, Bool.or_true, Bool.false_or, Bool.true_or, DL.isK, DL.opAdd_i, DL.opSub_i, DL.opLt_i, DL.opLe_i, DL.opGt_i, DL.opGe_i, DL.opEq_int, DL.opNe_int, DL.opEq_b, DL.opNe_b, DL.opEq_nn, beq_self_eq_true, DL.opEq_str, DL.opNe_str, DL.opIsN_n, DL.opNotN_n, DL.isN, DL.opIsB_b, DL.opNotB_b, DL.opNeg_i, DL.bAbs_i, DL.bMax_i, DL.bMin_i, DL.bInt_i, DL.bGcd_i, DL.bLen_l, DL.bLen_t, DL.opAdd_t, DL.opAdd_l, DL.opIx_l, DL.opIx_t, DL.opSl_t, DL.opSl_l, DL.opRev_t, DL.opRev_l, DL.bList_l, DL.bList_t, DL.bTup_l, DL.bTup_t, DL.atI0, DL.atI1, DL.atI2, DL.atI3, DL.items_t, DL.items_l]
      exact ⟨_, rfl, hY _ _ rfl ⟨_, rfl⟩⟩
    · rintro s' ⟨x9, rfl⟩
      exact hq _
  have pls : ∀ (x4 x5 x6 x7 x8 : S) (Q' : List PyData → DSt → Prop), (∀ x9, Q' ((cutL ((Ls.of a b x y p q').rows 12) none (some 6)).filterMap fun d => opIx d (.int 2)) [.well n4, .va (.tuple [.int a, .int b]), .va (.tuple [.int x, .int y, .int p, .int q']), .va (.list ((Ls.of a b x y p q').rows 12)), x4, x5, x6, x7, x8, x9]) → ∀ x9, lcL (mgName 9) mTYes (mCall D_place_at wF (mCons (mVar 1) (mCons (mVar 2) (mCons (mOp2 opIx (mVar 9) (mC (.int 0))) mNil)))) [9] Q' (cutL ((Ls.of a b x y p q').rows 12) none (some 6)) [.well n4, .va (.tuple [.int a, .int b]), .va (.tuple [.int x, .int y, .int p, .int q']), .va (.list ((Ls.of a b x y p q').rows 12)), x4, x5, x6, x7, x8, x9] [] := by
    intro x4 x5 x6 x7 x8 Q' hq x9
    refine lcL_run (fun s => ∃ x9, s = [.well n4, .va (.tuple [.int a, .int b]), .va (.tuple [.int x, .int y, .int p, .int q']), .va (.list ((Ls.of a b x y p q').rows 12)), x4, x5, x6, x7, x8, x9]) (fun d => opIx d (.int 2)) _ ?_ _ [] ⟨_, rfl⟩ (by simp only [List.length_nil]; omega) ?_
    · rintro d hd s ⟨x9, rfl⟩ Y N' hY hN'
      obtain ⟨i, hi, rfl⟩ := rowOf d hd
      simp only [swipe]
      simp only [DL.mSeq, DL.mAsg, DL.mAsgR, DL.mAsgM, DL.mrs, DL.ssets, DL.mIf, DL.mRet, DL.mRetN, DL.mrOf, DL.mrLst, DL.mrCat, DL.mrCall, DL.mDrop, DL.mNext, DL.mBreak, DL.mCont, DL.mC, DL.mVar, DL.mOp2, DL.mOp1, DL.mAnd, DL.mOr, DL.mNot, DL.mIfE, DL.mChain, DL.mNil, DL.mCons, DL.mTup, DL.mLst, DL.mCallB, DL.mDict0, DL.mPart, DL.mNoPart, DL.mSl, DL.mCall, DL.mCallK, DL.mCallW, DL.mLenScr, DL.mWell, DL.mT, DL.mTAnd, DL.mTOr, DL.mTNot, DL.mTYes, DL.mgName, DL.mgNil_n, DL.mgCons_c, DL.mgTup_t, DL.mgTup_l, DL.miSeq, DL.miRng1, DL.miRng2, DL.mRaise, DL.mApp, DL.mFor, DL.mLc, DL.mrLc, DL.sget, DL.sset, DL.slots0, DL.slotsW, DL.endP, DL.endW, DL.endL, DL.wF, DL.fz_va, DL.fz_own, List.length_cons, List.length_nil, List.map_cons, List.map_nil, List.replicate_succ, List.replicate_zero, Nat.reduceAdd, Nat.reduceSub, Nat.reduceLeDiff, List.cons_append, List.nil_append, Nat.zero_add, Nat.add_zero, Nat.sub_self, Option.some.injEq, PyData.bool.injEq, PyData.int.injEq, PyData.tuple.injEq, PyData.list.injEq, PyData.str.injEq, List.cons.injEq, DL.S.va.injEq, DL.S.own.injEq, DL.S.well.injEq, DL.S.scr.injEq, and_true, true_and, exists_eq_left', exists_eq_left, exists_eq_right, exists_eq_right', exists_and_left, exists_and_right, exists_eq, exists_eq', reduceCtorEq, false_and, and_false, exists_const, if_true, if_false, Bool.false_eq_true, reduceIte, Bool.not_true, Bool.not_false, DL.bIsi, List.any_cons, List.any_nil, Bool.or_false, Bool.or_true, Bool.false_or, Bool.true_or, DL.isK, DL.opAdd_i, DL.opSub_i, DL.opLt_i, DL.opLe_i, DL.opGt_i, DL.opGe_i, DL.opEq_int, DL.opNe_int, DL.opEq_b, DL.opNe_b, DL.opEq_nn, beq_self_eq_true, DL.opEq_str, DL.opNe_str, DL.opIsN_n, DL.opNotN_n, DL.isN, DL.opIsB_b, DL.opNotB_b, DL.opNeg_i, DL.bAbs_i, DL.bMax_i, DL.bMin_i, DL.bInt_i, DL.bGcd_i, DL.bLen_l, DL.bLen_t, DL.opAdd_t, DL.opAdd_l, DL.opIx_l, DL.opIx_t, DL.opSl_t, DL.opSl_l, DL.opRev_t, DL.opRev_l, DL.bList_l, DL.bList_t, DL.bTup_l, DL.bTup_t, DL.atI0, DL.atI1, DL.atI2, DL.atI3, DL.items_t, DL.items_l]
      have g := gd (i + 1)
      refine ⟨PyData.tuple [.int ((Ls.of a b x y p q').at (i + 1)).1, .int ((Ls.of a b x y p q').at (i + 1)).2], rfl, ?_⟩
      refine (VV _ _ g.m1 g.g (sz_mono (szt (i + 1) (by omega)).1 (by decide)) (sz_mono (szt (i + 1) (by omega)).2 (by decide))).place ⟨_, rfl, ?_⟩
      rw [pl _ g.m1]
      exact hY _ _ rfl ⟨_, rfl⟩
    · rintro s' ⟨x9, rfl⟩
      exact hq _
  refine ixs _ _ _ _ _ _ (fun x9 => ?_) _
  simp only [sback]
  simp only [DL.mSeq, DL.mAsg, DL.mAsgR, DL.mAsgM, DL.mrs, DL.ssets, DL.mIf, DL.mRet, DL.mRetN, DL.mrOf, DL.mrLst, DL.mrCat, DL.mrCall, DL.mDrop, DL.mNext, DL.mBreak, DL.mCont, DL.mC, DL.mVar, DL.mOp2, DL.mOp1, DL.mAnd, DL.mOr, DL.mNot, DL.mIfE, DL.mChain, DL.mNil, DL.mCons, DL.mTup, DL.mLst, DL.mCallB, DL.mDict0, DL.mPart, DL.mNoPart, DL.mSl, DL.mCall, DL.mCallK, DL.mCallW, DL.mLenScr, DL.mWell, DL.mT, DL.mTAnd, DL.mTOr, DL.mTNot, DL.mTYes, DL.mgName, DL.mgNil_n, DL.mgCons_c, DL.mgTup_t, DL.mgTup_l, DL.miSeq, DL.miRng1, DL.miRng2, DL.mRaise, DL.mApp, DL.mFor, DL.mLc, DL.mrLc, DL.sget, DL.sset, DL.slots0, DL.slotsW, DL.endP, DL.endW, DL.endL, DL.wF, DL.fz_va, DL.fz_own, List.length_cons, List.length_nil, List.map_cons, List.map_nil, List.replicate_succ, List.replicate_zero, Nat.reduceAdd, Nat.reduceSub, Nat.reduceLeDiff, List.cons_append, List.nil_append, Nat.zero_add, Nat.add_zero, Nat.sub_self, Option.some.injEq, PyData.bool.injEq, PyData.int.injEq, PyData.tuple.injEq, PyData.list.injEq, PyData.str.injEq, List.cons.injEq, DL.S.va.injEq, DL.S.own.injEq, DL.S.well.injEq, DL.S.scr.injEq, and_true, true_and, exists_eq_left', exists_eq_left, exists_eq_right, exists_eq_right', exists_and_left, exists_and_right, exists_eq, exists_eq', reduceCtorEq, false_and, and_false, exists_const, if_true, if_false, Bool.false_eq_true, reduceIte, Bool.not_true, Bool.not_false, DL.bIsi, List.any_cons, List.any_nil, Bool.or_false, Bool.or_true, Bool.false_or, Bool.true_or, DL.isK, DL.opAdd_i, DL.opSub_i, DL.opLt_i, DL.opLe_i, DL.opGt_i, DL.opGe_i, DL.opEq_int, DL.opNe_int, DL.opEq_b, DL.opNe_b, DL.opEq_nn, beq_self_eq_true, DL.opEq_str, DL.opNe_str, DL.opIsN_n, DL.opNotN_n, DL.isN, DL.opIsB_b, DL.opNotB_b, DL.opNeg_i, DL.bAbs_i, DL.bMax_i, DL.bMin_i, DL.bInt_i, DL.bGcd_i, DL.bLen_l, DL.bLen_t, DL.opAdd_t, DL.opAdd_l, DL.opIx_l, DL.opIx_t, DL.opSl_t, DL.opSl_l, DL.opRev_t, DL.opRev_l, DL.bList_l, DL.bList_t, DL.bTup_l, DL.bTup_t, DL.atI0, DL.atI1, DL.atI2, DL.atI3, DL.items_t, DL.items_l]
  refine ⟨rfl, ?_⟩
  refine pls _ _ _ _ _ _ (fun x9 => ?_) _
  try simp only [sback]
  try simp only [DL.mSeq, DL.mAsg, DL.mAsgR, DL.mAsgM, DL.mrs, DL.ssets, DL.mIf, DL.mRet, DL.mRetN, DL.mrOf, DL.mrLst, DL.mrCat, DL.mrCall, DL.mDrop, DL.mNext, DL.mBreak, DL.mCont, DL.mC, DL.mVar, DL.mOp2, DL.mOp1, DL.mAnd, DL.mOr, DL.mNot, DL.mIfE, DL.mChain, DL.mNil, DL.mCons, DL.mTup, DL.mLst, DL.mCallB, DL.mDict0, DL.mPart, DL.mNoPart, DL.mSl, DL.mCall, DL.mCallK, DL.mCallW, DL.mLenScr, DL.mWell, DL.mT, DL.mTAnd, DL.mTOr, DL.mTNot, DL.mTYes, DL.mgName, DL.mgNil_n, DL.mgCons_c, DL.mgTup_t, DL.mgTup_l, DL.miSeq, DL.miRng1, DL.miRng2, DL.mRaise, DL.mApp, DL.mFor, DL.mLc, DL.mrLc, DL.sget, DL.sset, DL.slots0, DL.slotsW, DL.endP, DL.endW, DL.endL, DL.wF, DL.fz_va, DL.fz_own, List.length_cons, List.length_nil, List.map_cons, List.map_nil, List.replicate_succ, List.replicate_zero, Nat.reduceAdd, Nat.reduceSub, Nat.reduceLeDiff, List.cons_append, List.nil_append, Nat.zero_add, Nat.add_zero, Nat.sub_self, Option.some.injEq, PyData.bool.injEq, PyData.int.injEq, PyData.tuple.injEq, PyData.list.injEq, PyData.str.injEq, List.cons.injEq, DL.S.va.injEq, DL.S.own.injEq, DL.S.well.injEq, DL.S.scr.injEq, and_true, true_and, exists_eq_left', exists_eq_left, exists_eq_right, exists_eq_right', exists_and_left, exists_and_right, exists_eq, exists_eq', reduceCtorEq, false_and, and_false, exists_const, if_true, if_false, Bool.false_eq_true, reduceIte, Bool.not_true, Bool.not_false, DL.bIsi, List.any_cons, List.any_nil, Bool.or_false, Bool.or_true, Bool.false_or, Bool.true_or, DL.isK, DL.opAdd_i, DL.opSub_i, DL.opLt_i, DL.opLe_i, DL.opGt_i, DL.opGe_i, DL.opEq_int, DL.opNe_int, DL.opEq_b, DL.opNe_b, DL.opEq_nn, beq_self_eq_true, DL.opEq_str, DL.opNe_str, DL.opIsN_n, DL.opNotN_n, DL.isN, DL.opIsB_b, DL.opNotB_b, DL.opNeg_i, DL.bAbs_i, DL.bMax_i, DL.bMin_i, DL.bInt_i, DL.bGcd_i, DL.bLen_l, DL.bLen_t, DL.opAdd_t, DL.opAdd_l, DL.opIx_l, DL.opIx_t, DL.opSl_t, DL.opSl_l, DL.opRev_t, DL.opRev_l, DL.bList_l, DL.bList_t, DL.bTup_l, DL.bTup_t, DL.atI0, DL.atI1, DL.atI2, DL.atI3, DL.items_t, DL.items_l]
  have hsd : sd 5 (.list ((cutL ((Ls.of a b x y p q').rows 12) none (some 6)).filterMap fun d => opIx d (.int 2))) = true := by
    simp only [sd, Bool.and_eq_true, decide_eq_true_eq, List.all_eq_true]
    refine ⟨Nat.le_trans (List.length_filterMap_le _ _) (by omega), fun d hd => ?_⟩
    obtain ⟨e, he, hk⟩ := List.mem_filterMap.mp hd
    obtain ⟨i, hi, rfl⟩ := rowOf e he
    have hk : some ((Ls.of a b x y p q').place ((Ls.of a b x y p q').at (i + 1))) = some d := hk
    cases hk
    exact sd_mono (j := 3) (by decide) rfl
  refine ⟨_, opEq_self (j := 5) (by decide) hsd, ?_⟩
  exact q _ (by omega)
section
variable {P : Program} {w : World} {K : PySem.W.Frag} {mg : Str → Option Value} {base : Heap} {CN : String → Option Addr}
theorem ok__law_small_right {f : Addr} {fd : FuncData} (F : Fun K "_law_small_right" "_law_small_right" s__law_small_right f fd) (g : G K mg CN) (c__law_desk : CalW P w K mg base 2 "_law_desk" D__law_desk) (c__law_draw : CalW P w K mg base 1 "_law_draw" dDraw) (c__law_hits : CalP P w K mg base CN 3 "_law_hits" D__law_hits) (c__law_low : CalP P w K mg base CN 1 "_law_low" D__law_low) (c__law_right : CalP P w K mg base CN 9 "_law_right" D__law_right) (c__law_roll : CalW P w K mg base 2 "_law_roll" D__law_roll) (c__law_way : CalP P w K mg base CN 4 "_law_way" D__law_way) (c_place_at : CalP P w K mg base CN 8 "place_at" D_place_at) (c_way_at : CalP P w K mg base CN 8 "way_at" D_way_at) : FnG P w K mg base 10 f fd ["well"] (spW K D__law_small_right) := by
  have sc := sc__law_small_right
  exact fun_okW (m := m__law_small_right) (CN := CN) F sc (by decide) len__law_small_right (fun cdv A outer s H E C hr tk =>
    (pds_cons (pds_asg (ps_asg (pd_callW c__law_desk hr (by decide) tk (pv 0) (pda_cons pd_int pda_nil)) (dg 1 sc.nd)))
    (pds_cons (pds_asg (ps_asg (pd_callW c__law_roll hr (by decide) tk (pv 0) (pda_cons (dv 1) (pda_cons pd_int pda_nil))) (dg 2 sc.nd)))
    (pds_cons (pds_asg (ps_asg (pd_call c__law_hits hr (by decide) tk (pda_cons (dv 1) (pda_cons (dv 2) (pda_cons pd_int pda_nil)))) (dg 3 sc.nd)))
    (pds_cons (pds_asgR (ps_set (i := 4) sc.nd rfl (.inl rfl) (pdr_cat (pd_lc (pe_lc (own := [("row", 9)]) rfl sc.nd (pdi_seq (pd_slB (dv 3) pd_int)) (blkOk_by (N := ["well", "desk", "shot_here", "rows", "times", "time_here", "due", "far", "later", "row"]) (sc := (defScope s__law_small_right)) (by decide +kernel)) (fun _ _ _ _ _ => (dgv 9 (vs := [9]) sc.nd)) (fun _ _ _ _ _ => pdts_nil) (fun _ _ _ _ _ => (pd_ix ix_seq rl_ix (dv 9) pd_int)))) (pd_lst (pda_cons (pd_tup (pda_cons pd_int (pda_cons pd_int pda_nil))) (pda_cons (pd_tup (pda_cons (pd_callW c__law_draw hr (by decide) tk (pv 0) (pda_cons pd_int pda_nil)) (pda_cons pd_int pda_nil))) pda_nil))))))
    (pds_cons (pds_app (ps_expr (pe_bm PySem.F.plainAttrs_list PySem.F.slot_list_append PySem.F.type_list_append mt_append (pv 4) (pa_cons (pd_call c__law_low hr (by decide) tk (pda_cons (pd_callW c__law_draw hr (by decide) tk (pv 0) (pda_cons pd_int pda_nil)) (pda_cons (pd_op or_add rl_add pd_int (pd_callW c__law_draw hr (by decide) tk (pv 0) (pda_cons pd_int pda_nil))) pda_nil))) pa_nil))))
    (pds_cons (pds_for (ps_for psw rfl (pdi_seq (dv 4)) (dg 5 sc.nd) (pds_cons (pds_if (pdt_not (pdt_val (pd_call c__law_right hr (by decide) tk (pda_cons (dv 1) (pda_cons (dv 2) (pda_cons (dv 5) pda_nil)))))) (pds_one (pds_ret (pdr_of pd_bl))) pds_nil)
    (pds_cons (pds_asg (ps_asg (pd_call c__law_way hr (by decide) tk (pda_cons (dv 1) (pda_cons (dv 2) (pda_cons (dv 5) pda_nil)))) (dg 6 sc.nd)))
    (pds_cons (pds_if (pdt_ofw (pdw_and (pdt_cmp op_notN rl_notN (dv 6) pd_non (nomark _)) (pdw_and1 (pdt_cmp (or_neD (RoomG.u64 hr)) rl_ne (pd_call c_way_at hr (by decide) tk (pda_cons (dv 1) (pda_cons (dv 2) (pda_cons (dv 5) pda_nil)))) (dv 6) (nomark _))))) (pds_one (pds_ret (pdr_of pd_bl))) pds_nil)
    (pds_cons (pds_asg (ps_asg (pd_op or_mul rl_mul (pd_op or_mul rl_mul (pd_op or_mul rl_mul pd_int (pd_ix ix_seq rl_ix (dv 1) pd_int)) (pd_ix ix_seq rl_ix (dv 1) pd_int)) (pd_op op_sub rl_sub (pd_callW c__law_draw hr (by decide) tk (pv 0) (pda_cons (pd_op op_powW rl_pow pd_int pd_int) pda_nil)) (pd_op op_powW rl_pow pd_int pd_int))) (dg 7 sc.nd)))
    (pds_cons (pds_asg (ps_asg (pd_call c__law_low hr (by decide) tk (pda_cons (pd_op or_add rl_add (pd_ix ix_seq rl_ix (dv 5) pd_int) (pd_op or_mul rl_mul (dv 7) (pd_ix ix_seq rl_ix (dv 5) pd_int))) (pda_cons (pd_ix ix_seq rl_ix (dv 5) pd_int) pda_nil))) (dg 8 sc.nd)))
    (pds_cons (pds_if (pdt_not (pdt_val (pd_call c__law_right hr (by decide) tk (pda_cons (dv 1) (pda_cons (dv 2) (pda_cons (dv 8) pda_nil)))))) (pds_one (pds_ret (pdr_of pd_bl))) pds_nil)
    (pds_one (pds_if (pdt_cmp (or_neD (RoomG.u64 hr)) rl_ne (pd_call c_way_at hr (by decide) tk (pda_cons (dv 1) (pda_cons (dv 2) (pda_cons (dv 8) pda_nil)))) (pd_call c_way_at hr (by decide) tk (pda_cons (dv 1) (pda_cons (dv 2) (pda_cons (dv 5) pda_nil)))) (nomark _)) (pds_one (pds_ret (pdr_of pd_bl))) pds_nil))))))))))
    (pds_one (pds_ret (pdr_of (pd_cmp (or_eqD (RoomG.u64 hr)) rl_eq (pd_lc (pe_lc (own := [("row", 9)]) rfl sc.nd (pdi_seq (pd_slB (dv 3) pd_int)) (blkOk_by (N := ["well", "desk", "shot_here", "rows", "times", "time_here", "due", "far", "later", "row"]) (sc := (defScope s__law_small_right)) (by decide +kernel)) (fun _ _ _ _ _ => (dgv 9 (vs := [9]) sc.nd)) (fun _ _ _ _ _ => pdts_nil) (fun _ _ _ _ _ => (pd_ix ix_seq rl_ix (dv 9) pd_int)))) (pd_lc (pe_lc (own := [("row", 9)]) rfl sc.nd (pdi_seq (pd_slB (dv 3) pd_int)) (blkOk_by (N := ["well", "desk", "shot_here", "rows", "times", "time_here", "due", "far", "later", "row"]) (sc := (defScope s__law_small_right)) (by decide +kernel)) (fun _ _ _ _ _ => (dgv 9 (vs := [9]) sc.nd)) (fun _ _ _ _ _ => pdts_nil) (fun _ _ _ _ _ => (pd_call c_place_at hr (by decide) takesF (pda_cons (dv 1) (pda_cons (dv 2) (pda_cons (pd_ix ix_seq rl_ix (dv 9) pd_int) pda_nil))))))) (nomark _)))))))))))) rd__law_small_right
end
end LW
namespace LW
open PySem PySem.Spec PyProof.Rows L2 DL
def m__law_folds_right : MS :=
  mSeq (mAsg (mOp2 opAdd (mC (.int 1)) (mCallW dDraw 0 (mCons (mOp2 opIx (mLst (mCons (mC (.int 5)) (mCons (mOp2 opPow (mC (.int 10)) (mC (.int 35))) (mNil)))) (mCallW dDraw 0 (mCons (mC (.int 2)) (mNil)))) (mNil)))) (mgName 1))
  (mSeq (mAsg (mCall D__law_low wF (mCons (mOp2 opSub (mCallW dDraw 0 (mCons (mOp2 opPow (mC (.int 10)) (mC (.int 36))) (mNil))) (mOp2 opMul (mC (.int 5)) (mOp2 opPow (mC (.int 10)) (mC (.int 35))))) (mCons (mOp2 opAdd (mC (.int 1)) (mCallW dDraw 0 (mCons (mC (.int 12)) (mNil)))) (mNil)))) (mgName 2))
  (mSeq (mAsg (mCall D__law_fold wF (mCons (mVar 1) (mCons (mOp2 opIx (mVar 2) (mC (.int 0))) (mCons (mOp2 opIx (mVar 2) (mC (.int 1))) (mNil))))) (mgName 3))
  (mSeq (mAsg (mLst (mCons (mCall D_folded wF (mCons (mVar 1) (mCons (mVar 2) (mNil)))) (mCons (mCallK D_folded wF (gSel 0 2 [.k 1, .k 0]) mNil (mCons (mVar 2) (mCons (mVar 1) (mNil)))) (mNil)))) (mgName 4))
  (mRet (mrOf (mCall (D__law_same 5) wF (mCons (mVar 4) (mCons (mLst (mCons (mVar 3) (mCons (mVar 3) (mNil)))) (mNil)))))))))
theorem fold_low {s t b : Int} (hs : 1 ≤ s) (hb : 1 ≤ b) (g : Nat.gcd t.natAbs b.natAbs = 1) : foldD s t b = fracD (foldI s t b) b := by
  obtain ⟨R, k, e, l, -⟩ := fold_is (T := t) hs hb
  have e2 : foldD s t b = .tuple [.int (foldI s t b), .int b] := by
    unfold foldD foldI
    split <;> rfl
  have e3 : R = foldI s t b := by
    rw [e2] at e
    simp only [PyData.tuple.injEq, List.cons.injEq, PyData.int.injEq, and_true] at e
    exact e.symm
  have g2 : Nat.gcd (foldI s t b).natAbs b.natAbs = 1 := by rw [← e3, gcd_lin l, g]
  rw [e2]
  unfold fracD
  rw [g2]
  simp
def D__law_folds_right : WSpec := fun n ds Q => ds = [] ∧ 20 ≤ n ∧ ∀ n', n ≤ n' + 10 → Q (.va (.bool true)) n'
theorem len__law_folds_right : ∀ n ds Q, D__law_folds_right n ds Q → ds.length + 1 = 1 := by
  rintro n _ Q ⟨rfl, _⟩
  rfl
theorem rd__law_folds_right : ∀ n ds Q, D__law_folds_right n ds Q → m__law_folds_right (endW Q) (slotsW 5 n ds) := by
  rintro n _ Q ⟨rfl, hn, q⟩
  unfold m__law_folds_right
  have p35 : opPow (.int 10) (.int 35) = some (.int (10 ^ Int.toNat 35)) := by rw [opPow_i, if_pos ⟨by decide, by decide, big10⟩]
  have p36 : opPow (.int 10) (.int 36) = some (.int (10 ^ Int.toNat 36)) := by rw [opPow_i, if_pos ⟨by decide, by decide, big10⟩]
  have e35 : (10 : Int) ^ Int.toNat 35 = 100000000000000000000000000000000000 := by decide +kernel
  have e36 : (10 : Int) ^ Int.toNat 36 = 1000000000000000000000000000000000000 := by decide +kernel
  rw [e35] at p35
  rw [e36] at p36
  refine seq_run (fun s => ∃ n1 j, s = [.well n1, .va (.int j), .no, .no, .no] ∧ n ≤ n1 + 2 ∧ 1 ≤ j ∧ j ≤ 100000000000000000000000000000000000) (fun N h => ?_) ?_
  · simp only [DL.mSeq, DL.mAsg, DL.mAsgR, DL.mAsgM, DL.mrs, DL.ssets, DL.mIf, DL.mRet, DL.mRetN, DL.mrOf, DL.mrLst, DL.mrCat, DL.mrCall, DL.mDrop, DL.mNext, DL.mBreak, DL.mCont, DL.mC, DL.mVar, DL.mOp2, DL.mOp1, DL.mAnd, DL.mOr, DL.mNot, DL.mIfE, DL.mChain, DL.mNil, DL.mCons, DL.mTup, DL.mLst, DL.mCallB, DL.mDict0, DL.mPart, DL.mNoPart, DL.mSl, DL.mCall, DL.mCallK, DL.mCallW, DL.mLenScr, DL.mWell, DL.mT, DL.mTAnd, DL.mTOr, DL.mTNot, DL.mTYes, DL.mgName, DL.mgNil_n, DL.mgCons_c, DL.mgTup_t, DL.mgTup_l, DL.miSeq, DL.miRng1, DL.miRng2, DL.mRaise, DL.mApp, DL.mFor, DL.mLc, DL.mrLc, DL.sget, DL.sset, DL.slots0, DL.slotsW, DL.endP, DL.endW, DL.endL, DL.wF, DL.fz_va, DL.fz_own, List.length_cons, List.length_nil, List.map_cons, List.map_nil, List.replicate_succ, List.replicate_zero, Nat.reduceAdd, Nat.reduceSub, Nat.reduceLeDiff, List.cons_append, List.nil_append, Nat.zero_add, Nat.add_zero, Nat.sub_self, Option.some.injEq, PyData.bool.injEq, PyData.int.injEq, PyData.tuple.injEq, PyData.list.injEq, PyData.str.injEq, List.cons.injEq, DL.S.va.injEq, DL.S.own.injEq, DL.S.well.injEq, DL.S.scr.injEq, and_true, true_and, exists_eq_left', exists_eq_left, exists_eq_right, exists_eq_right', exists_and_left, exists_and_right, exists_eq, exists_eq', reduceCtorEq, false_and, and_false, exists_const, if_true, if_false, Bool.false_eq_true, reduceIte, Bool.not_true, Bool.not_false, DL.bIsi, List.any_cons, List.any_nil, Bool.or_false, Bool.or_true, Bool.false_or, Bool.true_or, DL.isK, DL.opAdd_i, DL.opSub_i, DL.opLt_i, DL.opLe_i, DL.opGt_i, DL.opGe_i, DL.opEq_int, DL.opNe_int, DL.opEq_b, DL.opNe_b, DL.opEq_nn, beq_self_eq_true, DL.opEq_str, DL.opNe_str, DL.opIsN_n, DL.opNotN_n, DL.isN, DL.opIsB_b, DL.opNotB_b, DL.opNeg_i, DL.bAbs_i, DL.bMax_i, DL.bMin_i, DL.bInt_i, DL.bGcd_i, DL.bLen_l, DL.bLen_t, DL.opAdd_t, DL.opAdd_l, DL.opIx_l, DL.opIx_t, DL.opSl_t, DL.opSl_l, DL.opRev_t, DL.opRev_l, DL.bList_l, DL.bList_t, DL.bTup_l, DL.bTup_t, DL.atI0, DL.atI1, DL.atI2, DL.atI3, DL.items_t, DL.items_l]
    refine ⟨_, p35, dr (by omega) (by decide) (by decide) fun z p1 p2 => ⟨_, rfl, ?_⟩⟩
    obtain ⟨m, e, m1, m2⟩ : ∃ m : Int, DL.atI [PyData.int 5, PyData.int 100000000000000000000000000000000000] z = some (.int m) ∧ 1 ≤ m ∧ m ≤ 100000000000000000000000000000000000 := by
      have c : z = 0 ∨ z = 1 := by omega
      rcases c with rfl | rfl
      · exact ⟨5, rfl, by decide, by decide⟩
      · exact ⟨_, rfl, by decide, by decide⟩
    refine ⟨_, e, dr (by omega) m1 (by omega) fun z' p3 p4 => ⟨_, rfl, _, rfl, h _ ⟨_, _, rfl, by omega, by omega, by omega⟩⟩⟩
  rintro _ ⟨n1, j, rfl, hn1, j1, j2⟩
  refine seq_run (fun s => ∃ n2 t b, s = [.well n2, .va (.int j), .va (.tuple [.int t, .int b]), .no, .no] ∧ n ≤ n2 + 4 ∧ 1 ≤ b ∧ Nat.gcd t.natAbs b.natAbs = 1 ∧ sz 200 t ∧ sz 200 b) (fun N h => ?_) ?_
  · simp only [DL.mSeq, DL.mAsg, DL.mAsgR, DL.mAsgM, DL.mrs, DL.ssets, DL.mIf, DL.mRet, DL.mRetN, DL.mrOf, DL.mrLst, DL.mrCat, DL.mrCall, DL.mDrop, DL.mNext, DL.mBreak, DL.mCont, DL.mC, DL.mVar, DL.mOp2, DL.mOp1, DL.mAnd, DL.mOr, DL.mNot, DL.mIfE, DL.mChain, DL.mNil, DL.mCons, DL.mTup, DL.mLst, DL.mCallB, DL.mDict0, DL.mPart, DL.mNoPart, DL.mSl, DL.mCall, DL.mCallK, DL.mCallW, DL.mLenScr, DL.mWell, DL.mT, DL.mTAnd, DL.mTOr, DL.mTNot, DL.mTYes, DL.mgName, DL.mgNil_n, DL.mgCons_c, DL.mgTup_t, DL.mgTup_l, DL.miSeq, DL.miRng1, DL.miRng2, DL.mRaise, DL.mApp, DL.mFor, DL.mLc, DL.mrLc, DL.sget, DL.sset, DL.slots0, DL.slotsW, DL.endP, DL.endW, DL.endL, DL.wF, DL.fz_va, DL.fz_own, List.length_cons, List.length_nil, List.map_cons, List.map_nil, List.replicate_succ, List.replicate_zero, Nat.reduceAdd, Nat.reduceSub, Nat.reduceLeDiff, List.cons_append, List.nil_append, Nat.zero_add, Nat.add_zero, Nat.sub_self, Option.some.injEq, PyData.bool.injEq, PyData.int.injEq, PyData.tuple.injEq, PyData.list.injEq, PyData.str.injEq, List.cons.injEq, DL.S.va.injEq, DL.S.own.injEq, DL.S.well.injEq, DL.S.scr.injEq, and_true, true_and, exists_eq_left', exists_eq_left, exists_eq_right, exists_eq_right', exists_and_left, exists_and_right, exists_eq, exists_eq', reduceCtorEq, false_and, and_false, exists_const, if_true, if_false, Bool.false_eq_true, reduceIte, Bool.not_true, Bool.not_false, DL.bIsi, List.any_cons, List.any_nil, Bool.or_false, Bool.or_true, Bool.false_or, Bool.true_or, DL.isK, DL.opAdd_i, DL.opSub_i, DL.opLt_i, DL.opLe_i, DL.opGt_i, DL.opGe_i, DL.opEq_int, DL.opNe_int, DL.opEq_b, DL.opNe_b, DL.opEq_nn, beq_self_eq_true, DL.opEq_str, DL.opNe_str, DL.opIsN_n, DL.opNotN_n, DL.isN, DL.opIsB_b, DL.opNotB_b, DL.opNeg_i, DL.bAbs_i, DL.bMax_i, DL.bMin_i, DL.bInt_i, DL.bGcd_i, DL.bLen_l, DL.bLen_t, DL.opAdd_t, DL.opAdd_l, DL.opIx_l, DL.opIx_t, DL.opSl_t, DL.opSl_l, DL.opRev_t, DL.opRev_l, DL.bList_l, DL.bList_t, DL.bTup_l, DL.bTup_t, DL.atI0, DL.atI1, DL.atI2, DL.atI3, DL.items_t, DL.items_l]
    refine ⟨_, p36, dr (by omega) (by decide) (by decide) fun z p1 p2 => ⟨_, rfl, _, p35, ?_⟩⟩
    have z5 : sz 3 5 := by unfold sz; decide
    have z35 : sz 120 100000000000000000000000000000000000 := by unfold sz; decide
    refine ⟨_, opMul_ok z5 z35 (by decide), _, rfl, dr (by omega) (by decide) (by decide) fun z' p3 p4 => ⟨_, rfl, _, rfl, ?_⟩⟩
    have zb : sz 200 (1 + z') := by unfold sz; omega
    have zt : sz 200 (z - 5 * 100000000000000000000000000000000000) := by unfold sz; omega
    refine ⟨_, _, rfl, by omega, sz_mono zb (by decide), _, rfl, ?_⟩
    obtain ⟨-, h2, h3⟩ := low_facts (t := z - 5 * 100000000000000000000000000000000000) (m := 1 + z') (by omega)
    have g := gcd_pos (t := z - 5 * 100000000000000000000000000000000000) (b := 1 + z') (by omega)
    exact h _ ⟨_, _, _, rfl, by omega, h2, h3, sz_div zt g, sz_div zb g⟩
  rintro _ ⟨n2, t, b, rfl, hn2, b1, g, zt, zb⟩
  have zj : sz 200 j := by unfold sz; omega
  simp only [DL.mSeq, DL.mAsg, DL.mAsgR, DL.mAsgM, DL.mrs, DL.ssets, DL.mIf, DL.mRet, DL.mRetN, DL.mrOf, DL.mrLst, DL.mrCat, DL.mrCall, DL.mDrop, DL.mNext, DL.mBreak, DL.mCont, DL.mC, DL.mVar, DL.mOp2, DL.mOp1, DL.mAnd, DL.mOr, DL.mNot, DL.mIfE, DL.mChain, DL.mNil, DL.mCons, DL.mTup, DL.mLst, DL.mCallB, DL.mDict0, DL.mPart, DL.mNoPart, DL.mSl, DL.mCall, DL.mCallK, DL.mCallW, DL.mLenScr, DL.mWell, DL.mT, DL.mTAnd, DL.mTOr, DL.mTNot, DL.mTYes, DL.mgName, DL.mgNil_n, DL.mgCons_c, DL.mgTup_t, DL.mgTup_l, DL.miSeq, DL.miRng1, DL.miRng2, DL.mRaise, DL.mApp, DL.mFor, DL.mLc, DL.mrLc, DL.sget, DL.sset, DL.slots0, DL.slotsW, DL.endP, DL.endW, DL.endL, DL.wF, DL.fz_va, DL.fz_own, List.length_cons, List.length_nil, List.map_cons, List.map_nil, List.replicate_succ, List.replicate_zero, Nat.reduceAdd, Nat.reduceSub, Nat.reduceLeDiff, List.cons_append, List.nil_append, Nat.zero_add, Nat.add_zero, Nat.sub_self, Option.some.injEq, PyData.bool.injEq, PyData.int.injEq, PyData.tuple.injEq, PyData.list.injEq, PyData.str.injEq, List.cons.injEq, DL.S.va.injEq, DL.S.own.injEq, DL.S.well.injEq, DL.S.scr.injEq, and_true, true_and, exists_eq_left', exists_eq_left, exists_eq_right, exists_eq_right', exists_and_left, exists_and_right, exists_eq, exists_eq', reduceCtorEq, false_and, and_false, exists_const, if_true, if_false, Bool.false_eq_true, reduceIte, Bool.not_true, Bool.not_false, DL.bIsi, List.any_cons, List.any_nil, Bool.or_false, Bool.or_true, Bool.false_or, Bool.true_or, DL.isK, DL.opAdd_i, DL.opSub_i, DL.opLt_i, DL.opLe_i, DL.opGt_i, DL.opGe_i, DL.opEq_int, DL.opNe_int, DL.opEq_b, DL.opNe_b, DL.opEq_nn, beq_self_eq_true, DL.opEq_str, DL.opNe_str, DL.opIsN_n, DL.opNotN_n, DL.isN, DL.opIsB_b, DL.opNotB_b, DL.opNeg_i, DL.bAbs_i, DL.bMax_i, DL.bMin_i, DL.bInt_i, DL.bGcd_i, DL.bLen_l, DL.bLen_t, DL.opAdd_t, DL.opAdd_l, DL.opIx_l, DL.opIx_t, DL.opSl_t, DL.opSl_l, DL.opRev_t, DL.opRev_l, DL.bList_l, DL.bList_t, DL.bTup_l, DL.bTup_t, DL.atI0, DL.atI1, DL.atI2, DL.atI3, DL.items_t, DL.items_l]
  refine ⟨j, t, b, rfl, j1, b1, sz_mono zj (by decide), sz_mono zb (by decide), _, rfl, ?_⟩
  have fr : isFrac (.tuple [.int t, .int b]) = true := by simp [isFrac, b1, g]
  have fo : ∀ {Q : S → Prop} {E : String → Prop}, Q (.va (foldD j t b)) → D_folded [.int j, .tuple [.int t, .int b]] Q E := fun hq => ⟨_, _, rfl, fun hh => absurd (hh j rfl) (by omega), fun _ _ _ hh => absurd (fr.symm.trans hh) (by decide), fun _ _ _ e1 e2 _ _ => by
    cases e1; cases e2
    exact ⟨sz_mono zj (by decide), sz_mono zb (by decide), hq⟩⟩
  refine fo ⟨_, rfl, fo ⟨_, rfl, ?_⟩⟩
  rw [fold_low j1 b1 g]
  exact ⟨_, rfl, rfl, _, rfl, q _ (by omega)⟩
section
variable {P : Program} {w : World} {K : PySem.W.Frag} {mg : Str → Option Value} {base : Heap} {CN : String → Option Addr}
theorem ok__law_folds_right {f : Addr} {fd : FuncData} (F : Fun K "_law_folds_right" "_law_folds_right" s__law_folds_right f fd) (g : G K mg CN) (c__law_draw : CalW P w K mg base 1 "_law_draw" dDraw) (c__law_fold : CalP P w K mg base CN 2 "_law_fold" D__law_fold) (c__law_low : CalP P w K mg base CN 1 "_law_low" D__law_low) (c__law_same : CalP P w K mg base CN 6 "_law_same" (D__law_same 5)) (c_folded : CalP P w K mg base CN 5 "folded" D_folded) (kc_folded_0_number_side : CalK P w K mg base CN 5 "folded" D_folded ["number", "side"] (gSel 0 2 [.k 1, .k 0])) : FnG P w K mg base 7 f fd ["well"] (spW K D__law_folds_right) := by
  have sc := sc__law_folds_right
  exact fun_okW (m := m__law_folds_right) (CN := CN) F sc (by decide) len__law_folds_right (fun cdv A outer s H E C hr tk =>
    (pds_cons (pds_asg (ps_asg (pd_op or_add rl_add pd_int (pd_callW c__law_draw hr (by decide) tk (pv 0) (pda_cons (pd_ix ix_seq rl_ix (pd_lst (pda_cons pd_int (pda_cons (pd_op op_powW rl_pow pd_int pd_int) pda_nil))) (pd_callW c__law_draw hr (by decide) tk (pv 0) (pda_cons pd_int pda_nil))) pda_nil))) (dg 1 sc.nd)))
    (pds_cons (pds_asg (ps_asg (pd_call c__law_low hr (by decide) tk (pda_cons (pd_op op_sub rl_sub (pd_callW c__law_draw hr (by decide) tk (pv 0) (pda_cons (pd_op op_powW rl_pow pd_int pd_int) pda_nil)) (pd_op or_mul rl_mul pd_int (pd_op op_powW rl_pow pd_int pd_int))) (pda_cons (pd_op or_add rl_add pd_int (pd_callW c__law_draw hr (by decide) tk (pv 0) (pda_cons pd_int pda_nil))) pda_nil))) (dg 2 sc.nd)))
    (pds_cons (pds_asg (ps_asg (pd_call c__law_fold hr (by decide) tk (pda_cons (dv 1) (pda_cons (pd_ix ix_seq rl_ix (dv 2) pd_int) (pda_cons (pd_ix ix_seq rl_ix (dv 2) pd_int) pda_nil)))) (dg 3 sc.nd)))
    (pds_cons (pds_asg (ps_asg (pd_lst (pda_cons (pd_call c_folded hr (by decide) tk (pda_cons (dv 1) (pda_cons (dv 2) pda_nil))) (pda_cons (pd_callK0 kc_folded_0_number_side hr (by decide) tk (pdk_cons (dv 2) (pdk_cons (dv 1) pdk_nil))) pda_nil))) (dg 4 sc.nd)))
    (pds_one (pds_ret (pdr_of (pd_call c__law_same hr (by decide) tk (pda_cons (dv 4) (pda_cons (pd_lst (pda_cons (dv 3) (pda_cons (dv 3) pda_nil))) pda_nil))))))))))) rd__law_folds_right
end
end LW
namespace LW
open PySem PySem.Spec PyProof.Rows L2 DL
def m_law : MS :=
  mSeq (mFor (miRng1 (mCons (mCallB bMax (mCons (mC (.int 1)) (mCons (mCallB bMin (mCons (mC (.int 5)) (mCons (mLenScr 0) (mNil)))) (mNil)))) (mNil))) (mgName 1) (mSeq (mAsgR 2 (mWell 0 (mVar 1)))
  (mFor (miRng1 (mCons (mC (.int 3)) (mNil))) (mgName 3) (mSeq (mIf (mTOr (mTNot (mT (mCallW D__law_small_right 2 (mNil)))) (mTNot (mT (mCallW D__law_folds_right 2 (mNil))))) (mRet (mrOf (mC (.bool false)))) (mNext))
  (mSeq (mAsg (mCallW D__law_desk 2 (mCons (mOp2 opPow (mC (.int 10)) (mC (.int 35))) (mNil))) (mgName 4))
  (mSeq (mAsg (mCallW D__law_roll 2 (mCons (mVar 4) (mCons (mOp2 opIx (mLst (mCons (mC (.int 3)) (mCons (mOp2 opPow (mC (.int 10)) (mC (.int 30))) (mNil)))) (mCallW dDraw 2 (mCons (mC (.int 2)) (mNil)))) (mNil)))) (mgName 5))
  (mSeq (mAsg (mCall D__law_low wF (mCons (mOp2 opSub (mCallW dDraw 2 (mCons (mOp2 opPow (mC (.int 10)) (mC (.int 38))) (mNil))) (mOp2 opPow (mC (.int 10)) (mC (.int 37)))) (mCons (mOp2 opAdd (mC (.int 1)) (mCallW dDraw 2 (mCons (mC (.int 12)) (mNil)))) (mNil)))) (mgName 6))
  (mIf (mTNot (mT (mCall D__law_right wF (mCons (mVar 4) (mCons (mVar 5) (mCons (mVar 6) (mNil))))))) (mRet (mrOf (mC (.bool false)))) (mNext)))))))))
  (mRet (mrOf (mOp2 opEq (mCall D_folded wF (mCons (mC (.int 4)) (mCons (mTup (mCons (mOp1 opNeg (mC (.int 1))) (mCons (mC (.int 2)) (mNil)))) (mNil)))) (mTup (mCons (mC (.int 1)) (mCons (mC (.int 2)) (mNil)))))))
theorem rd_law : ∀ ns : List Int, ns.length ≤ 63 → (∀ z ∈ ns, Builtin.Int.intBits z ≤ 1048576) → m_law endL (.scr ns :: List.replicate (["script", "at", "well", "turn", "desk", "shot_here", "time_here"].length - 1) .no) := by
  intro ns hl hb
  unfold m_law
  show mSeq _ _ _ [.scr ns, .no, .no, .no, .no, .no, .no]
  refine seq_run (fun s => ∃ x1 x2 x3 x4 x5 x6, s = [.scr ns, x1, x2, x3, x4, x5, x6]) (fun N1 h1 => ?_) ?_
  · simp only [DL.mSeq, DL.mAsg, DL.mAsgR, DL.mAsgM, DL.mrs, DL.ssets, DL.mIf, DL.mRet, DL.mRetN, DL.mrOf, DL.mrLst, DL.mrCat, DL.mrCall, DL.mDrop, DL.mNext, DL.mBreak, DL.mCont, DL.mC, DL.mVar, DL.mOp2, DL.mOp1, DL.mAnd, DL.mOr, DL.mNot, DL.mIfE, DL.mChain, DL.mNil, DL.mCons, DL.mTup, DL.mLst, DL.mCallB, DL.mDict0, DL.mPart, DL.mNoPart, DL.mSl, DL.mCall, DL.mCallK, DL.mCallW, DL.mLenScr, DL.mWell, DL.mT, DL.mTAnd, DL.mTOr, DL.mTNot, DL.mTYes, DL.mgName, DL.mgNil_n, DL.mgCons_c, DL.mgTup_t, DL.mgTup_l, DL.miSeq, DL.miRng1, DL.miRng2, DL.mRaise, DL.mApp, DL.mFor, DL.mLc, DL.mrLc, DL.sget, DL.sset, DL.slots0, DL.slotsW, DL.endP, DL.endW, DL.endL, DL.wF, DL.fz_va, DL.fz_own, List.length_cons, List.length_nil, List.map_cons, List.map_nil, List.replicate_succ, List.replicate_zero, Nat.reduceAdd, Nat.reduceSub, Nat.reduceLeDiff, List.cons_append, List.nil_append, Nat.zero_add, Nat.add_zero, Nat.sub_self, Option.some.injEq, PyData.bool.injEq, PyData.int.injEq, PyData.tuple.injEq, PyData.list.injEq, PyData.str.injEq, List.cons.injEq, DL.S.va.injEq, DL.S.own.injEq, DL.S.well.injEq, DL.S.scr.injEq, and_true, true_and, exists_eq_left', exists_eq_left, exists_eq_right, exists_eq_right', exists_and_left, exists_and_right, exists_eq, exists_eq', reduceCtorEq, false_and, and_false, exists_const, if_true, if_false, Bool.false_eq_true, reduceIte, Bool.not_true, Bool.not_false, DL.bIsi, List.any_cons, List.any_nil, Bool.or_false, Bool.or_true, Bool.false_or, Bool.true_or, DL.isK, DL.opAdd_i, DL.opSub_i, DL.opLt_i, DL.opLe_i, DL.opGt_i, DL.opGe_i, DL.opEq_int, DL.opNe_int, DL.opEq_b, DL.opNe_b, DL.opEq_nn, beq_self_eq_true, DL.opEq_str, DL.opNe_str, DL.opIsN_n, DL.opNotN_n, DL.isN, DL.opIsB_b, DL.opNotB_b, DL.opNeg_i, DL.bAbs_i, DL.bMax_i, DL.bMin_i, DL.bInt_i, DL.bGcd_i, DL.bLen_l, DL.bLen_t, DL.opAdd_t, DL.opAdd_l, DL.opIx_l, DL.opIx_t, DL.opSl_t, DL.opSl_l, DL.opRev_t, DL.opRev_l, DL.bList_l, DL.bList_t, DL.bTup_l, DL.bTup_t, DL.atI0, DL.atI1, DL.atI2, DL.atI3, DL.items_t, DL.items_l]
    generalize hk : (if (if (ns.length : Int) < 5 then (ns.length : Int) else 5) > 1 then if (ns.length : Int) < 5 then (ns.length : Int) else 5 else 1) = k
    have k0 : 0 ≤ k := by rw [← hk]; split <;> (try split) <;> omega
    have k1 : k ≤ 5 := by rw [← hk]; split <;> (try split) <;> omega
    refine ⟨by omega, by omega, ?_⟩
    refine forL_run (fun r s => (∀ d ∈ r, ∃ j : Int, d = .int j ∧ 0 ≤ j ∧ j < 2 ^ 20) ∧ ∃ x1 x2 x3 x4 x5 x6, s = [.scr ns, x1, x2, x3, x4, x5, x6]) ?_ ?_ _ _ ⟨?_, _, _, _, _, _, _, rfl⟩
    · rintro d r s N ⟨hd, x1, x2, x3, x4, x5, x6, rfl⟩ hN
      obtain ⟨j, rfl, j0, j1⟩ := hd d (by simp)
      have hd' := fun d h => hd d (List.mem_cons_of_mem _ h)
      simp only [DL.mSeq, DL.mAsg, DL.mAsgR, DL.mAsgM, DL.mrs, DL.ssets, DL.mIf, DL.mRet, DL.mRetN, DL.mrOf, DL.mrLst, DL.mrCat, DL.mrCall, DL.mDrop, DL.mNext, DL.mBreak, DL.mCont, DL.mC, DL.mVar, DL.mOp2, DL.mOp1, DL.mAnd, DL.mOr, DL.mNot, DL.mIfE, DL.mChain, DL.mNil, DL.mCons, DL.mTup, DL.mLst, DL.mCallB, DL.mDict0, DL.mPart, DL.mNoPart, DL.mSl, DL.mCall, DL.mCallK, DL.mCallW, DL.mLenScr, DL.mWell, DL.mT, DL.mTAnd, DL.mTOr, DL.mTNot, DL.mTYes, DL.mgName, DL.mgNil_n, DL.mgCons_c, DL.mgTup_t, DL.mgTup_l, DL.miSeq, DL.miRng1, DL.miRng2, DL.mRaise, DL.mApp, DL.mFor, DL.mLc, DL.mrLc, DL.sget, DL.sset, DL.slots0, DL.slotsW, DL.endP, DL.endW, DL.endL, DL.wF, DL.fz_va, DL.fz_own, List.length_cons, List.length_nil, List.map_cons, List.map_nil, List.replicate_succ, List.replicate_zero, Nat.reduceAdd, Nat.reduceSub, Nat.reduceLeDiff, List.cons_append, List.nil_append, Nat.zero_add, Nat.add_zero, Nat.sub_self, Option.some.injEq, PyData.bool.injEq, PyData.int.injEq, PyData.tuple.injEq, PyData.list.injEq, PyData.str.injEq, List.cons.injEq, DL.S.va.injEq, DL.S.own.injEq, DL.S.well.injEq, DL.S.scr.injEq, and_true, true_and, exists_eq_left', exists_eq_left, exists_eq_right, exists_eq_right', exists_and_left, exists_and_right, exists_eq, exists_eq', reduceCtorEq, false_and, and_false, exists_const, if_true, if_false, Bool.false_eq_true, reduceIte, Bool.not_true, Bool.not_false, DL.bIsi, List.any_cons, List.any_nil, Bool.or_false, Bool.or_true, Bool.false_or, Bool.true_or, DL.isK, DL.opAdd_i, DL.opSub_i, DL.opLt_i, DL.opLe_i, DL.opGt_i, DL.opGe_i, DL.opEq_int, DL.opNe_int, DL.opEq_b, DL.opNe_b, DL.opEq_nn, beq_self_eq_true, DL.opEq_str, DL.opNe_str, DL.opIsN_n, DL.opNotN_n, DL.isN, DL.opIsB_b, DL.opNotB_b, DL.opNeg_i, DL.bAbs_i, DL.bMax_i, DL.bMin_i, DL.bInt_i, DL.bGcd_i, DL.bLen_l, DL.bLen_t, DL.opAdd_t, DL.opAdd_l, DL.opIx_l, DL.opIx_t, DL.opSl_t, DL.opSl_l, DL.opRev_t, DL.opRev_l, DL.bList_l, DL.bList_t, DL.bTup_l, DL.bTup_t, DL.atI0, DL.atI1, DL.atI2, DL.atI3, DL.items_t, DL.items_l]
      refine ⟨hl, hb, j0, j1, by decide, by decide, ?_⟩
      refine forL_run (fun r s => ∃ n x1 x3 x4 x5 x6, s = [.scr ns, x1, .well n, x3, x4, x5, x6] ∧ 2 ^ 59 + 300 * r.length ≤ n) ?_ ?_ _ _ ⟨_, _, _, _, _, _, rfl, by decide⟩
      · rintro d r s N' ⟨n, x1, x3, x4, x5, x6, rfl, hn⟩ hN'
        simp only [List.length_cons] at hn
        simp only [mgName, sset]
        have pw : ∀ k : Int, 0 ≤ k → k ≤ 100 → opPow (.int 10) (.int k) = some (.int (10 ^ k.toNat)) := fun k h0 h1 => by rw [opPow_i, if_pos ⟨h0, h1, big10⟩]
        have p35 := pw 35 (by decide) (by decide)
        have p30 := pw 30 (by decide) (by decide)
        have p38 := pw 38 (by decide) (by decide)
        have p37 := pw 37 (by decide) (by decide)
        have e35 : (10 : Int) ^ Int.toNat 35 = 100000000000000000000000000000000000 := by decide +kernel
        have e30 : (10 : Int) ^ Int.toNat 30 = 1000000000000000000000000000000 := by decide +kernel
        have e38 : (10 : Int) ^ Int.toNat 38 = 100000000000000000000000000000000000000 := by decide +kernel
        have e37 : (10 : Int) ^ Int.toNat 37 = 10000000000000000000000000000000000000 := by decide +kernel
        rw [e35] at p35
        rw [e30] at p30
        rw [e38] at p38
        rw [e37] at p37
        refine seq_run (fun s => ∃ n2, s = [.scr ns, x1, .well n2, .va d, x4, x5, x6] ∧ n ≤ n2 + 70) (fun N2 h2 => ?_) ?_
        · simp only [DL.mSeq, DL.mAsg, DL.mAsgR, DL.mAsgM, DL.mrs, DL.ssets, DL.mIf, DL.mRet, DL.mRetN, DL.mrOf, DL.mrLst, DL.mrCat, DL.mrCall, DL.mDrop, DL.mNext, DL.mBreak, DL.mCont, DL.mC, DL.mVar, DL.mOp2, DL.mOp1, DL.mAnd, DL.mOr, DL.mNot, DL.mIfE, DL.mChain, DL.mNil, DL.mCons, DL.mTup, DL.mLst, DL.mCallB, DL.mDict0, DL.mPart, DL.mNoPart, DL.mSl, DL.mCall, DL.mCallK, DL.mCallW, DL.mLenScr, DL.mWell, DL.mT, DL.mTAnd, DL.mTOr, DL.mTNot, DL.mTYes, DL.mgName, DL.mgNil_n, DL.mgCons_c, DL.mgTup_t, DL.mgTup_l, DL.miSeq, DL.miRng1, DL.miRng2, DL.mRaise, DL.mApp, DL.mFor, DL.mLc, DL.mrLc, DL.sget, DL.sset, DL.slots0, DL.slotsW, DL.endP, DL.endW, DL.endL, DL.wF, DL.fz_va, DL.fz_own, List.length_cons, List.length_nil, List.map_cons, List.map_nil, List.replicate_succ, List.replicate_zero, Nat.reduceAdd, Nat.reduceSub, Nat.reduceLeDiff, List.cons_append, List.nil_append, Nat.zero_add, Nat.add_zero, Nat.sub_self, Option.some.injEq, PyData.bool.injEq, PyData.int.injEq, PyData.tuple.injEq, PyData.list.injEq, PyData.str.injEq, List.cons.injEq, DL.S.va.injEq, DL.S.own.injEq, DL.S.well.injEq, DL.S.scr.injEq, and_true, true_and, exists_eq_left', exists_eq_left, exists_eq_right, exists_eq_right', exists_and_left, exists_and_right, exists_eq, exists_eq', reduceCtorEq, false_and, and_false, exists_const, if_true, if_false, Bool.false_eq_true, reduceIte, Bool.not_true, Bool.not_false, DL.bIsi, List.any_cons, List.any_nil, Bool.or_false, Bool.or_true, Bool.false_or, Bool.true_or, DL.isK, DL.opAdd_i, DL.opSub_i, DL.opLt_i, DL.opLe_i, DL.opGt_i, DL.opGe_i, DL.opEq_int, DL.opNe_int, DL.opEq_b, DL.opNe_b, DL.opEq_nn, beq_self_eq_true, DL.opEq_str, DL.opNe_str, DL.opIsN_n, DL.opNotN_n, DL.isN, DL.opIsB_b, DL.opNotB_b, DL.opNeg_i, DL.bAbs_i, DL.bMax_i, DL.bMin_i, DL.bInt_i, DL.bGcd_i, DL.bLen_l, DL.bLen_t, DL.opAdd_t, DL.opAdd_l, DL.opIx_l, DL.opIx_t, DL.opSl_t, DL.opSl_l, DL.opRev_t, DL.opRev_l, DL.bList_l, DL.bList_t, DL.bTup_l, DL.bTup_t, DL.atI0, DL.atI1, DL.atI2, DL.atI3, DL.items_t, DL.items_l]
          refine ⟨rfl, by omega, fun n' hn' => ⟨_, rfl, _, rfl, ?_⟩⟩
          rw [if_neg (by decide)]
          refine ⟨rfl, by omega, fun n'' hn'' => ⟨_, rfl, _, rfl, ?_⟩⟩
          rw [if_neg (by decide)]
          exact h2 _ ⟨_, rfl, by omega⟩
        rintro _ ⟨n2, rfl, hn2⟩
        refine seq_run (fun s => ∃ a b n3, s = [.scr ns, x1, .well n3, .va d, .va (.tuple [.int a, .int b]), x5, x6] ∧ n ≤ n3 + 74 ∧ 1 ≤ a ∧ a < 2 ^ 130 ∧ 1 ≤ b ∧ b < 2 ^ 130) (fun N2 h2 => ?_) ?_
        · simp only [DL.mSeq, DL.mAsg, DL.mAsgR, DL.mAsgM, DL.mrs, DL.ssets, DL.mIf, DL.mRet, DL.mRetN, DL.mrOf, DL.mrLst, DL.mrCat, DL.mrCall, DL.mDrop, DL.mNext, DL.mBreak, DL.mCont, DL.mC, DL.mVar, DL.mOp2, DL.mOp1, DL.mAnd, DL.mOr, DL.mNot, DL.mIfE, DL.mChain, DL.mNil, DL.mCons, DL.mTup, DL.mLst, DL.mCallB, DL.mDict0, DL.mPart, DL.mNoPart, DL.mSl, DL.mCall, DL.mCallK, DL.mCallW, DL.mLenScr, DL.mWell, DL.mT, DL.mTAnd, DL.mTOr, DL.mTNot, DL.mTYes, DL.mgName, DL.mgNil_n, DL.mgCons_c, DL.mgTup_t, DL.mgTup_l, DL.miSeq, DL.miRng1, DL.miRng2, DL.mRaise, DL.mApp, DL.mFor, DL.mLc, DL.mrLc, DL.sget, DL.sset, DL.slots0, DL.slotsW, DL.endP, DL.endW, DL.endL, DL.wF, DL.fz_va, DL.fz_own, List.length_cons, List.length_nil, List.map_cons, List.map_nil, List.replicate_succ, List.replicate_zero, Nat.reduceAdd, Nat.reduceSub, Nat.reduceLeDiff, List.cons_append, List.nil_append, Nat.zero_add, Nat.add_zero, Nat.sub_self, Option.some.injEq, PyData.bool.injEq, PyData.int.injEq, PyData.tuple.injEq, PyData.list.injEq, PyData.str.injEq, List.cons.injEq, DL.S.va.injEq, DL.S.own.injEq, DL.S.well.injEq, DL.S.scr.injEq, and_true, true_and, exists_eq_left', exists_eq_left, exists_eq_right, exists_eq_right', exists_and_left, exists_and_right, exists_eq, exists_eq', reduceCtorEq, false_and, and_false, exists_const, if_true, if_false, Bool.false_eq_true, reduceIte, Bool.not_true, Bool.not_false, DL.bIsi, List.any_cons, List.any_nil, Bool.or_false, Bool.or_true, Bool.false_or, Bool.true_or, DL.isK, DL.opAdd_i, DL.opSub_i, DL.opLt_i, DL.opLe_i, DL.opGt_i, DL.opGe_i, DL.opEq_int, DL.opNe_int, DL.opEq_b, DL.opNe_b, DL.opEq_nn, beq_self_eq_true, DL.opEq_str, DL.opNe_str, DL.opIsN_n, DL.opNotN_n, DL.isN, DL.opIsB_b, DL.opNotB_b, DL.opNeg_i, DL.bAbs_i, DL.bMax_i, DL.bMin_i, DL.bInt_i, DL.bGcd_i, DL.bLen_l, DL.bLen_t, DL.opAdd_t, DL.opAdd_l, DL.opIx_l, DL.opIx_t, DL.opSl_t, DL.opSl_l, DL.opRev_t, DL.opRev_l, DL.bList_l, DL.bList_t, DL.bTup_l, DL.bTup_t, DL.atI0, DL.atI1, DL.atI2, DL.atI3, DL.items_t, DL.items_l]
          exact ⟨_, p35, _, rfl, by omega, by decide, by decide, fun a b n1 hn1 a1 a2 b1 b2 => ⟨_, rfl, h2 _ ⟨_, _, _, rfl, by omega, a1, by omega, b1, by omega⟩⟩⟩
        rintro _ ⟨a, b, n3, rfl, hn3, a1, a2, b1, b2⟩
        refine seq_run (fun s => ∃ x y p q' n4, s = [.scr ns, x1, .well n4, .va d, .va (.tuple [.int a, .int b]), .va (.tuple [.int x, .int y, .int p, .int q']), x6] ∧ n ≤ n4 + 85 ∧ 0 ≤ x ∧ x ≤ a ∧ 0 ≤ y ∧ y ≤ b ∧ sz 110 p ∧ sz 110 q' ∧ (p ≠ 0 ∨ q' ≠ 0)) (fun N2 h2 => ?_) ?_
        · simp only [DL.mSeq, DL.mAsg, DL.mAsgR, DL.mAsgM, DL.mrs, DL.ssets, DL.mIf, DL.mRet, DL.mRetN, DL.mrOf, DL.mrLst, DL.mrCat, DL.mrCall, DL.mDrop, DL.mNext, DL.mBreak, DL.mCont, DL.mC, DL.mVar, DL.mOp2, DL.mOp1, DL.mAnd, DL.mOr, DL.mNot, DL.mIfE, DL.mChain, DL.mNil, DL.mCons, DL.mTup, DL.mLst, DL.mCallB, DL.mDict0, DL.mPart, DL.mNoPart, DL.mSl, DL.mCall, DL.mCallK, DL.mCallW, DL.mLenScr, DL.mWell, DL.mT, DL.mTAnd, DL.mTOr, DL.mTNot, DL.mTYes, DL.mgName, DL.mgNil_n, DL.mgCons_c, DL.mgTup_t, DL.mgTup_l, DL.miSeq, DL.miRng1, DL.miRng2, DL.mRaise, DL.mApp, DL.mFor, DL.mLc, DL.mrLc, DL.sget, DL.sset, DL.slots0, DL.slotsW, DL.endP, DL.endW, DL.endL, DL.wF, DL.fz_va, DL.fz_own, List.length_cons, List.length_nil, List.map_cons, List.map_nil, List.replicate_succ, List.replicate_zero, Nat.reduceAdd, Nat.reduceSub, Nat.reduceLeDiff, List.cons_append, List.nil_append, Nat.zero_add, Nat.add_zero, Nat.sub_self, Option.some.injEq, PyData.bool.injEq, PyData.int.injEq, PyData.tuple.injEq, PyData.list.injEq, PyData.str.injEq, List.cons.injEq, DL.S.va.injEq, DL.S.own.injEq, DL.S.well.injEq, DL.S.scr.injEq, and_true, true_and, exists_eq_left', exists_eq_left, exists_eq_right, exists_eq_right', exists_and_left, exists_and_right, exists_eq, exists_eq', reduceCtorEq, false_and, and_false, exists_const, if_true, if_false, Bool.false_eq_true, reduceIte, Bool.not_true, Bool.not_false, DL.bIsi, List.any_cons, List.any_nil, Bool.or_false, Bool.or_true, Bool.false_or, Bool.true_or, DL.isK, DL.opAdd_i, DL.opSub_i, DL.opLt_i, DL.opLe_i, DL.opGt_i, DL.opGe_i, DL.opEq_int, DL.opNe_int, DL.opEq_b, DL.opNe_b, DL.opEq_nn, beq_self_eq_true, DL.opEq_str, DL.opNe_str, DL.opIsN_n, DL.opNotN_n, DL.isN, DL.opIsB_b, DL.opNotB_b, DL.opNeg_i, DL.bAbs_i, DL.bMax_i, DL.bMin_i, DL.bInt_i, DL.bGcd_i, DL.bLen_l, DL.bLen_t, DL.opAdd_t, DL.opAdd_l, DL.opIx_l, DL.opIx_t, DL.opSl_t, DL.opSl_l, DL.opRev_t, DL.opRev_l, DL.bList_l, DL.bList_t, DL.bTup_l, DL.bTup_t, DL.atI0, DL.atI1, DL.atI2, DL.atI3, DL.items_t, DL.items_l]
          refine ⟨_, p30, dr (by omega) (by decide) (by decide) fun z p1 p2 => ⟨_, rfl, ?_⟩⟩
          obtain ⟨m, e, m1, m2⟩ : ∃ m : Int, DL.atI [PyData.int 3, PyData.int 1000000000000000000000000000000] z = some (.int m) ∧ 1 ≤ m ∧ m ≤ 1000000000000000000000000000000 := by
            have c : z = 0 ∨ z = 1 := by omega
            rcases c with rfl | rfl
            · exact ⟨3, rfl, by decide, by decide⟩
            · exact ⟨_, rfl, by decide, by decide⟩
          exact ⟨_, e, a, b, m, rfl, by omega, a1, by omega, b1, by omega, m1, by omega, fun x y p q' n2 hn2 x0 x1 y0 y1 hp hq hpq => ⟨_, rfl, h2 _ ⟨_, _, _, _, _, rfl, by omega, x0, x1, y0, y1, by unfold sz; omega, by unfold sz; omega, hpq⟩⟩⟩
        rintro _ ⟨x, y, p, q', n4, rfl, hn4, x0, xa, y0, yb, zp, zq, w⟩
        refine seq_run (fun s => ∃ t u n5, s = [.scr ns, x1, .well n5, .va d, .va (.tuple [.int a, .int b]), .va (.tuple [.int x, .int y, .int p, .int q']), .va (.tuple [.int t, .int u])] ∧ n ≤ n5 + 90 ∧ 1 ≤ u ∧ Nat.gcd t.natAbs u.natAbs = 1 ∧ sz 200 t ∧ sz 200 u) (fun N2 h2 => ?_) ?_
        · simp only [DL.mSeq, DL.mAsg, DL.mAsgR, DL.mAsgM, DL.mrs, DL.ssets, DL.mIf, DL.mRet, DL.mRetN, DL.mrOf, DL.mrLst, DL.mrCat, DL.mrCall, DL.mDrop, DL.mNext, DL.mBreak, DL.mCont, DL.mC, DL.mVar, DL.mOp2, DL.mOp1, DL.mAnd, DL.mOr, DL.mNot, DL.mIfE, DL.mChain, DL.mNil, DL.mCons, DL.mTup, DL.mLst, DL.mCallB, DL.mDict0, DL.mPart, DL.mNoPart, DL.mSl, DL.mCall, DL.mCallK, DL.mCallW, DL.mLenScr, DL.mWell, DL.mT, DL.mTAnd, DL.mTOr, DL.mTNot, DL.mTYes, DL.mgName, DL.mgNil_n, DL.mgCons_c, DL.mgTup_t, DL.mgTup_l, DL.miSeq, DL.miRng1, DL.miRng2, DL.mRaise, DL.mApp, DL.mFor, DL.mLc, DL.mrLc, DL.sget, DL.sset, DL.slots0, DL.slotsW, DL.endP, DL.endW, DL.endL, DL.wF, DL.fz_va, DL.fz_own, List.length_cons, List.length_nil, List.map_cons, List.map_nil, List.replicate_succ, List.replicate_zero, Nat.reduceAdd, Nat.reduceSub, Nat.reduceLeDiff, List.cons_append, List.nil_append, Nat.zero_add, Nat.add_zero, Nat.sub_self, Option.some.injEq, PyData.bool.injEq, PyData.int.injEq, PyData.tuple.injEq, PyData.list.injEq, PyData.str.injEq, List.cons.injEq, DL.S.va.injEq, DL.S.own.injEq, DL.S.well.injEq, DL.S.scr.injEq, and_true, true_and, exists_eq_left', exists_eq_left, exists_eq_right, exists_eq_right', exists_and_left, exists_and_right, exists_eq, exists_eq', reduceCtorEq, false_and, and_false, exists_const, if_true, if_false, Bool.false_eq_true, reduceIte, Bool.not_true, Bool.not_false, DL.bIsi, List.any_cons, List.any_nil, Bool.or_false, Bool.or_true, Bool.false_or, Bool.true_or, DL.isK, DL.opAdd_i, DL.opSub_i, DL.opLt_i, DL.opLe_i, DL.opGt_i, DL.opGe_i, DL.opEq_int, DL.opNe_int, DL.opEq_b, DL.opNe_b, DL.opEq_nn, beq_self_eq_true, DL.opEq_str, DL.opNe_str, DL.opIsN_n, DL.opNotN_n, DL.isN, DL.opIsB_b, DL.opNotB_b, DL.opNeg_i, DL.bAbs_i, DL.bMax_i, DL.bMin_i, DL.bInt_i, DL.bGcd_i, DL.bLen_l, DL.bLen_t, DL.opAdd_t, DL.opAdd_l, DL.opIx_l, DL.opIx_t, DL.opSl_t, DL.opSl_l, DL.opRev_t, DL.opRev_l, DL.bList_l, DL.bList_t, DL.bTup_l, DL.bTup_t, DL.atI0, DL.atI1, DL.atI2, DL.atI3, DL.items_t, DL.items_l]
          refine ⟨_, p38, dr (by omega) (by decide) (by decide) fun z p1 p2 => ⟨_, rfl, _, p37, _, rfl, dr (by omega) (by decide) (by decide) fun z' p3 p4 => ⟨_, rfl, _, rfl, ?_⟩⟩⟩
          have zb : sz 200 (1 + z') := by unfold sz; omega
          have zt : sz 200 (z - 10000000000000000000000000000000000000) := by unfold sz; omega
          refine ⟨_, _, rfl, by omega, sz_mono zb (by decide), _, rfl, ?_⟩
          obtain ⟨-, f2, f3⟩ := low_facts (t := z - 10000000000000000000000000000000000000) (m := 1 + z') (by omega)
          have g := gcd_pos (t := z - 10000000000000000000000000000000000000) (b := 1 + z') (by omega)
          exact h2 _ ⟨_, _, _, rfl, by omega, f2, f3, sz_div zt g, sz_div zb g⟩
        rintro _ ⟨t, u, n5, rfl, hn5, u1, g, zt, zu⟩
        simp only [DL.mSeq, DL.mAsg, DL.mAsgR, DL.mAsgM, DL.mrs, DL.ssets, DL.mIf, DL.mRet, DL.mRetN, DL.mrOf, DL.mrLst, DL.mrCat, DL.mrCall, DL.mDrop, DL.mNext, DL.mBreak, DL.mCont, DL.mC, DL.mVar, DL.mOp2, DL.mOp1, DL.mAnd, DL.mOr, DL.mNot, DL.mIfE, DL.mChain, DL.mNil, DL.mCons, DL.mTup, DL.mLst, DL.mCallB, DL.mDict0, DL.mPart, DL.mNoPart, DL.mSl, DL.mCall, DL.mCallK, DL.mCallW, DL.mLenScr, DL.mWell, DL.mT, DL.mTAnd, DL.mTOr, DL.mTNot, DL.mTYes, DL.mgName, DL.mgNil_n, DL.mgCons_c, DL.mgTup_t, DL.mgTup_l, DL.miSeq, DL.miRng1, DL.miRng2, DL.mRaise, DL.mApp, DL.mFor, DL.mLc, DL.mrLc, DL.sget, DL.sset, DL.slots0, DL.slotsW, DL.endP, DL.endW, DL.endL, DL.wF, DL.fz_va, DL.fz_own, List.length_cons, List.length_nil, List.map_cons, List.map_nil, List.replicate_succ, List.replicate_zero, Nat.reduceAdd, Nat.reduceSub, Nat.reduceLeDiff, List.cons_append, List.nil_append, Nat.zero_add, Nat.add_zero, Nat.sub_self, Option.some.injEq, PyData.bool.injEq, PyData.int.injEq, PyData.tuple.injEq, PyData.list.injEq, PyData.str.injEq, List.cons.injEq, DL.S.va.injEq, DL.S.own.injEq, DL.S.well.injEq, DL.S.scr.injEq, and_true, true_and, exists_eq_left', exists_eq_left, exists_eq_right, exists_eq_right', exists_and_left, exists_and_right, exists_eq, exists_eq', reduceCtorEq, false_and, and_false, exists_const, if_true, if_false, Bool.false_eq_true, reduceIte, Bool.not_true, Bool.not_false, DL.bIsi, List.any_cons, List.any_nil, Bool.or_false, Bool.or_true, Bool.false_or, Bool.true_or, DL.isK, DL.opAdd_i, DL.opSub_i, DL.opLt_i, DL.opLe_i, DL.opGt_i, DL.opGe_i, DL.opEq_int, DL.opNe_int, DL.opEq_b, DL.opNe_b, DL.opEq_nn, beq_self_eq_true, DL.opEq_str, DL.opNe_str, DL.opIsN_n, DL.opNotN_n, DL.isN, DL.opIsB_b, DL.opNotB_b, DL.opNeg_i, DL.bAbs_i, DL.bMax_i, DL.bMin_i, DL.bInt_i, DL.bGcd_i, DL.bLen_l, DL.bLen_t, DL.opAdd_t, DL.opAdd_l, DL.opIx_l, DL.opIx_t, DL.opSl_t, DL.opSl_l, DL.opRev_t, DL.opRev_l, DL.bList_l, DL.bList_t, DL.bTup_l, DL.bTup_t, DL.atI0, DL.atI1, DL.atI2, DL.atI3, DL.items_t, DL.items_l]
        have v : V a b x y p q' t u := ⟨a1, b1, x0, xa, y0, yb, w, u1, g, by unfold sz; omega, by unfold sz; omega, by unfold sz; omega, by unfold sz; omega, sz_mono zp (by decide), sz_mono zq (by decide), sz_mono zt (by decide), sz_mono zu (by decide)⟩
        refine ⟨a, b, x, y, p, q', t, u, rfl, v, _, rfl, _, rfl, ?_⟩
        rw [if_neg (by decide)]
        exact hN' _ ⟨_, _, _, _, _, _, rfl, by omega⟩
      · rintro s ⟨n, x1, x3, x4, x5, x6, rfl, hn⟩
        exact hN _ ⟨hd', _, _, _, _, _, _, rfl⟩
    · rintro s ⟨-, x1, x2, x3, x4, x5, x6, rfl⟩
      exact h1 _ ⟨_, _, _, _, _, _, rfl⟩
    · intro d hd
      unfold rangeL at hd
      obtain ⟨i, hi, rfl⟩ := List.mem_map.mp hd
      have := List.mem_range.mp hi
      exact ⟨_, rfl, by omega, by omega⟩
  · rintro s ⟨x1, x2, x3, x4, x5, x6, rfl⟩
    simp only [DL.mSeq, DL.mAsg, DL.mAsgR, DL.mAsgM, DL.mrs, DL.ssets, DL.mIf, DL.mRet, DL.mRetN, DL.mrOf, DL.mrLst, DL.mrCat, DL.mrCall, DL.mDrop, DL.mNext, DL.mBreak, DL.mCont, DL.mC, DL.mVar, DL.mOp2, DL.mOp1, DL.mAnd, DL.mOr, DL.mNot, DL.mIfE, DL.mChain, DL.mNil, DL.mCons, DL.mTup, DL.mLst, DL.mCallB, DL.mDict0, DL.mPart, DL.mNoPart, DL.mSl, DL.mCall, DL.mCallK, DL.mCallW, DL.mLenScr, DL.mWell, DL.mT, DL.mTAnd, DL.mTOr, DL.mTNot, DL.mTYes, DL.mgName, DL.mgNil_n, DL.mgCons_c, DL.mgTup_t, DL.mgTup_l, DL.miSeq, DL.miRng1, DL.miRng2, DL.mRaise, DL.mApp, DL.mFor, DL.mLc, DL.mrLc, DL.sget, DL.sset, DL.slots0, DL.slotsW, DL.endP, DL.endW, DL.endL, DL.wF, DL.fz_va, DL.fz_own, List.length_cons, List.length_nil, List.map_cons, List.map_nil, List.replicate_succ, List.replicate_zero, Nat.reduceAdd, Nat.reduceSub, Nat.reduceLeDiff, List.cons_append, List.nil_append, Nat.zero_add, Nat.add_zero, Nat.sub_self, Option.some.injEq, PyData.bool.injEq, PyData.int.injEq, PyData.tuple.injEq, PyData.list.injEq, PyData.str.injEq, List.cons.injEq, DL.S.va.injEq, DL.S.own.injEq, DL.S.well.injEq, DL.S.scr.injEq, and_true, true_and, exists_eq_left', exists_eq_left, exists_eq_right, exists_eq_right', exists_and_left, exists_and_right, exists_eq, exists_eq', reduceCtorEq, false_and, and_false, exists_const, if_true, if_false, Bool.false_eq_true, reduceIte, Bool.not_true, Bool.not_false, DL.bIsi, List.any_cons, List.any_nil, Bool.or_false, Bool.or_true, Bool.false_or, Bool.true_or, DL.isK, DL.opAdd_i, DL.opSub_i, DL.opLt_i, DL.opLe_i, DL.opGt_i, DL.opGe_i, DL.opEq_int, DL.opNe_int, DL.opEq_b, DL.opNe_b, DL.opEq_nn, beq_self_eq_true, DL.opEq_str, DL.opNe_str, DL.opIsN_n, DL.opNotN_n, DL.isN, DL.opIsB_b, DL.opNotB_b, DL.opNeg_i, DL.bAbs_i, DL.bMax_i, DL.bMin_i, DL.bInt_i, DL.bGcd_i, DL.bLen_l, DL.bLen_t, DL.opAdd_t, DL.opAdd_l, DL.opIx_l, DL.opIx_t, DL.opSl_t, DL.opSl_l, DL.opRev_t, DL.opRev_l, DL.bList_l, DL.bList_t, DL.bTup_l, DL.bTup_t, DL.atI0, DL.atI1, DL.atI2, DL.atI3, DL.items_t, DL.items_l]
    exact ⟨_, _, rfl, fun h => absurd (h 4 rfl) (by decide), fun _ _ _ h => absurd h (by decide), fun _ _ _ e1 e2 _ _ => by
      cases e1; cases e2
      exact ⟨by unfold sz; decide, by unfold sz; decide, _, rfl, opEq_self (d := .tuple [.int 1, .int 2]) (j := 2) (by decide) rfl⟩⟩
section
variable {P : Program} {w : World} {K : PySem.W.Frag} {mg : Str → Option Value} {base : Heap} {CN : String → Option Addr}
theorem ok_law {f : Addr} {fd : FuncData} (F : Fun K "law" "law" s_law f fd) (g : G K mg CN) (c__law_desk : CalW P w K mg base 2 "_law_desk" D__law_desk) (c__law_draw : CalW P w K mg base 1 "_law_draw" dDraw) (c__law_folds_right : CalW P w K mg base 7 "_law_folds_right" D__law_folds_right) (c__law_low : CalP P w K mg base CN 1 "_law_low" D__law_low) (c__law_right : CalP P w K mg base CN 9 "_law_right" D__law_right) (c__law_roll : CalW P w K mg base 2 "_law_roll" D__law_roll) (c__law_small_right : CalW P w K mg base 10 "_law_small_right" D__law_small_right) (c__law_well : CalL P w K mg base 1 "_law_well") (c_folded : CalP P w K mg base CN 5 "folded" D_folded) : FnG P w K mg base 11 f fd ["script"] (spL K) := by
  have sc := sc_law
  exact fun_okL (m := m_law) (CN := CN) F sc (by decide) (fun cdv A outer s H E C hw hr tk =>
    (pds_cons (pds_for (ps_for psw rfl (d_range1 g.b_range (pda_cons (pd_callB (call_max2 rfl) rc_max g.b_max (by decide +kernel) (pda_cons pd_int (pda_cons (pd_callB (call_min2 rfl) rc_min g.b_min (by decide +kernel) (pda_cons pd_int (pda_cons (pd_lenScr (x := "") g.b_len (i := 0) rfl (.inl rfl)) pda_nil))) pda_nil))) pda_nil)) (dg 1 sc.nd) (pds_cons (pds_asgR (ps_set (i := 2) sc.nd rfl (.inl rfl) (pdr_well hw c__law_well hr (by decide) tk (pv 0) (dv 1))))
    (pds_one (pds_for (ps_for psw rfl (d_range1 g.b_range (pda_cons pd_int pda_nil)) (dg 3 sc.nd) (pds_cons (pds_if (pdt_ofw (pdw_or (pdt_not (pdt_val (pd_callW c__law_small_right hr (by decide) tk (pv 2) pda_nil))) (pdw_or1 (pdt_not (pdt_val (pd_callW c__law_folds_right hr (by decide) tk (pv 2) pda_nil)))))) (pds_one (pds_ret (pdr_of pd_bl))) pds_nil)
    (pds_cons (pds_asg (ps_asg (pd_callW c__law_desk hr (by decide) tk (pv 2) (pda_cons (pd_op op_powW rl_pow pd_int pd_int) pda_nil)) (dg 4 sc.nd)))
    (pds_cons (pds_asg (ps_asg (pd_callW c__law_roll hr (by decide) tk (pv 2) (pda_cons (dv 4) (pda_cons (pd_ix ix_seq rl_ix (pd_lst (pda_cons pd_int (pda_cons (pd_op op_powW rl_pow pd_int pd_int) pda_nil))) (pd_callW c__law_draw hr (by decide) tk (pv 2) (pda_cons pd_int pda_nil))) pda_nil))) (dg 5 sc.nd)))
    (pds_cons (pds_asg (ps_asg (pd_call c__law_low hr (by decide) tk (pda_cons (pd_op op_sub rl_sub (pd_callW c__law_draw hr (by decide) tk (pv 2) (pda_cons (pd_op op_powW rl_pow pd_int pd_int) pda_nil)) (pd_op op_powW rl_pow pd_int pd_int)) (pda_cons (pd_op or_add rl_add pd_int (pd_callW c__law_draw hr (by decide) tk (pv 2) (pda_cons pd_int pda_nil))) pda_nil))) (dg 6 sc.nd)))
    (pds_one (pds_if (pdt_not (pdt_val (pd_call c__law_right hr (by decide) tk (pda_cons (dv 4) (pda_cons (dv 5) (pda_cons (dv 6) pda_nil)))))) (pds_one (pds_ret (pdr_of pd_bl))) pds_nil))))))))))))
    (pds_one (pds_ret (pdr_of (pd_cmp (or_eqD (RoomG.u64 hr)) rl_eq (pd_call c_folded hr (by decide) tk (pda_cons pd_int (pda_cons (pd_tup (pda_cons (pd_un un_neg rl_neg pd_int) (pda_cons pd_int pda_nil))) pda_nil))) (pd_tup (pda_cons pd_int (pda_cons pd_int pda_nil))) (nomark _))))))) rd_law
end
end LW
namespace LW
open PySem PySem.Spec PyProof.Rows L2 DL
theorem all_mk {l : PySem.W.OpenLaw} {w : World} {K : PySem.W.Frag} {h : Heap} {mg : Str → Option Value} {fa f1 f2 f3 f4 f5 f6 f7 f8 f9 f10 f11 f12 f13 f14 f15 f16 f17 f18 f19 f20 f21 f22 f23 f24 f25 f26 f27 f28 f29 f30 f31 f32 f33 f34 f35 f36 C_InvalidShot C_InvalidSide C_InvalidTable C_InvalidTime : Addr} (X : K.In h) (G0 : h.Ns mainGlobals mg) (hfa : mg "law" = some (.ref fa))
    {od1 an1 od2 an2 od3 an3 od4 an4 od5 an5 od6 an6 od7 an7 od8 an8 od9 an9 od10 an10 od11 an11 od12 an12 od13 an13 od14 an14 od15 an15 od16 an16 od17 an17 od18 an18 od19 an19 od20 an20 od21 an21 od22 an22 od23 an23 od24 an24 od25 an25 od26 an26 od27 an27 od28 an28 od29 an29 od30 an30 od31 an31 od32 an32 od33 an33 od34 an34 od35 an35 od36 an36 : Option Addr} {sl1 sl2 sl3 sl4 sl5 sl6 sl7 sl8 sl9 sl10 sl11 sl12 sl13 sl14 sl15 sl16 sl17 sl18 sl19 sl20 sl21 sl22 sl23 sl24 sl25 sl26 sl27 sl28 sl29 sl30 sl31 sl32 sl33 sl34 sl35 sl36 : Array (Option Value)} {oc1 kV1 dc1 pm1 cd1 ct1 oc2 kV2 dc2 pm2 cd2 ct2 oc3 kV3 dc3 pm3 cd3 ct3 oc4 kV4 dc4 pm4 cd4 ct4 oc5 kV5 dc5 pm5 cd5 ct5 oc6 kV6 dc6 pm6 cd6 ct6 oc7 kV7 dc7 pm7 cd7 ct7 oc8 kV8 dc8 pm8 cd8 ct8 oc9 kV9 dc9 pm9 cd9 ct9 oc10 kV10 dc10 pm10 cd10 ct10 oc11 kV11 dc11 pm11 cd11 ct11 oc12 kV12 dc12 pm12 cd12 ct12 oc13 kV13 dc13 pm13 cd13 ct13 oc14 kV14 dc14 pm14 cd14 ct14 oc15 kV15 dc15 pm15 cd15 ct15 oc16 kV16 dc16 pm16 cd16 ct16 oc17 kV17 dc17 pm17 cd17 ct17 oc18 kV18 dc18 pm18 cd18 ct18 oc19 kV19 dc19 pm19 cd19 ct19 oc20 kV20 dc20 pm20 cd20 ct20 oc21 kV21 dc21 pm21 cd21 ct21 oc22 kV22 dc22 pm22 cd22 ct22 oc23 kV23 dc23 pm23 cd23 ct23 oc24 kV24 dc24 pm24 cd24 ct24 oc25 kV25 dc25 pm25 cd25 ct25 oc26 kV26 dc26 pm26 cd26 ct26 oc27 kV27 dc27 pm27 cd27 ct27 oc28 kV28 dc28 pm28 cd28 ct28 oc29 kV29 dc29 pm29 cd29 ct29 oc30 kV30 dc30 pm30 cd30 ct30 oc31 kV31 dc31 pm31 cd31 ct31 oc32 kV32 dc32 pm32 cd32 ct32 oc33 kV33 dc33 pm33 cd33 ct33 oc34 kV34 dc34 pm34 cd34 ct34 oc35 kV35 dc35 pm35 cd35 ct35 oc36 kV36 dc36 pm36 cd36 ct36 : Value}
    (a1 : PySem.W.nsIn K mainGlobals "is_whole" = some (some (.ref f1))) (l1 : K.lookup f1 = some ⟨oc1, od1, .func (PySem.W.fnOf "is_whole" "is_whole" (defArgs s_is_whole) (defBody s_is_whole) (defScope s_is_whole) .none kV1 dc1 pm1 an1 cd1 ct1), sl1⟩) (c1 : PySem.W.codeIn K cd1 "is_whole" = true) (k1 : PySem.W.keepIn K (.ref f1) = true)
    (a2 : PySem.W.nsIn K mainGlobals "are_whole" = some (some (.ref f2))) (l2 : K.lookup f2 = some ⟨oc2, od2, .func (PySem.W.fnOf "are_whole" "are_whole" (defArgs s_are_whole) (defBody s_are_whole) (defScope s_are_whole) .none kV2 dc2 pm2 an2 cd2 ct2), sl2⟩) (c2 : PySem.W.codeIn K cd2 "are_whole" = true) (k2 : PySem.W.keepIn K (.ref f2) = true)
    (a3 : PySem.W.nsIn K mainGlobals "fraction_of" = some (some (.ref f3))) (l3 : K.lookup f3 = some ⟨oc3, od3, .func (PySem.W.fnOf "fraction_of" "fraction_of" (defArgs s_fraction_of) (defBody s_fraction_of) (defScope s_fraction_of) .none kV3 dc3 pm3 an3 cd3 ct3), sl3⟩) (c3 : PySem.W.codeIn K cd3 "fraction_of" = true) (k3 : PySem.W.keepIn K (.ref f3) = true)
    (a4 : PySem.W.nsIn K mainGlobals "_line_of" = some (some (.ref f4))) (l4 : K.lookup f4 = some ⟨oc4, od4, .func (PySem.W.fnOf "_line_of" "_line_of" (defArgs s__line_of) (defBody s__line_of) (defScope s__line_of) .none kV4 dc4 pm4 an4 cd4 ct4), sl4⟩) (c4 : PySem.W.codeIn K cd4 "_line_of" = true) (k4 : PySem.W.keepIn K (.ref f4) = true)
    (a5 : PySem.W.nsIn K mainGlobals "lines_of" = some (some (.ref f5))) (l5 : K.lookup f5 = some ⟨oc5, od5, .func (PySem.W.fnOf "lines_of" "lines_of" (defArgs s_lines_of) (defBody s_lines_of) (defScope s_lines_of) .none kV5 dc5 pm5 an5 cd5 ct5), sl5⟩) (c5 : PySem.W.codeIn K cd5 "lines_of" = true) (k5 : PySem.W.keepIn K (.ref f5) = true)
    (a6 : PySem.W.nsIn K mainGlobals "is_table" = some (some (.ref f6))) (l6 : K.lookup f6 = some ⟨oc6, od6, .func (PySem.W.fnOf "is_table" "is_table" (defArgs s_is_table) (defBody s_is_table) (defScope s_is_table) .none kV6 dc6 pm6 an6 cd6 ct6), sl6⟩) (c6 : PySem.W.codeIn K cd6 "is_table" = true) (k6 : PySem.W.keepIn K (.ref f6) = true)
    (a7 : PySem.W.nsIn K mainGlobals "check_table" = some (some (.ref f7))) (l7 : K.lookup f7 = some ⟨oc7, od7, .func (PySem.W.fnOf "check_table" "check_table" (defArgs s_check_table) (defBody s_check_table) (defScope s_check_table) .none kV7 dc7 pm7 an7 cd7 ct7), sl7⟩) (c7 : PySem.W.codeIn K cd7 "check_table" = true) (k7 : PySem.W.keepIn K (.ref f7) = true)
    (a8 : PySem.W.nsIn K mainGlobals "is_any_shot" = some (some (.ref f8))) (l8 : K.lookup f8 = some ⟨oc8, od8, .func (PySem.W.fnOf "is_any_shot" "is_any_shot" (defArgs s_is_any_shot) (defBody s_is_any_shot) (defScope s_is_any_shot) .none kV8 dc8 pm8 an8 cd8 ct8), sl8⟩) (c8 : PySem.W.codeIn K cd8 "is_any_shot" = true) (k8 : PySem.W.keepIn K (.ref f8) = true)
    (a9 : PySem.W.nsIn K mainGlobals "is_shot" = some (some (.ref f9))) (l9 : K.lookup f9 = some ⟨oc9, od9, .func (PySem.W.fnOf "is_shot" "is_shot" (defArgs s_is_shot) (defBody s_is_shot) (defScope s_is_shot) .none kV9 dc9 pm9 an9 cd9 ct9), sl9⟩) (c9 : PySem.W.codeIn K cd9 "is_shot" = true) (k9 : PySem.W.keepIn K (.ref f9) = true)
    (a10 : PySem.W.nsIn K mainGlobals "is_fraction" = some (some (.ref f10))) (l10 : K.lookup f10 = some ⟨oc10, od10, .func (PySem.W.fnOf "is_fraction" "is_fraction" (defArgs s_is_fraction) (defBody s_is_fraction) (defScope s_is_fraction) .none kV10 dc10 pm10 an10 cd10 ct10), sl10⟩) (c10 : PySem.W.codeIn K cd10 "is_fraction" = true) (k10 : PySem.W.keepIn K (.ref f10) = true)
    (a11 : PySem.W.nsIn K mainGlobals "_fold" = some (some (.ref f11))) (l11 : K.lookup f11 = some ⟨oc11, od11, .func (PySem.W.fnOf "_fold" "_fold" (defArgs s__fold) (defBody s__fold) (defScope s__fold) .none kV11 dc11 pm11 an11 cd11 ct11), sl11⟩) (c11 : PySem.W.codeIn K cd11 "_fold" = true) (k11 : PySem.W.keepIn K (.ref f11) = true)
    (a12 : PySem.W.nsIn K mainGlobals "check_time" = some (some (.ref f12))) (l12 : K.lookup f12 = some ⟨oc12, od12, .func (PySem.W.fnOf "check_time" "check_time" (defArgs s_check_time) (defBody s_check_time) (defScope s_check_time) .none kV12 dc12 pm12 an12 cd12 ct12), sl12⟩) (c12 : PySem.W.codeIn K cd12 "check_time" = true) (k12 : PySem.W.keepIn K (.ref f12) = true)
    (a13 : PySem.W.nsIn K mainGlobals "folded" = some (some (.ref f13))) (l13 : K.lookup f13 = some ⟨oc13, od13, .func (PySem.W.fnOf "folded" "folded" (defArgs s_folded) (defBody s_folded) (defScope s_folded) .none kV13 dc13 pm13 an13 cd13 ct13), sl13⟩) (c13 : PySem.W.codeIn K cd13 "folded" = true) (k13 : PySem.W.keepIn K (.ref f13) = true)
    (a14 : PySem.W.nsIn K mainGlobals "check_shot" = some (some (.ref f14))) (l14 : K.lookup f14 = some ⟨oc14, od14, .func (PySem.W.fnOf "check_shot" "check_shot" (defArgs s_check_shot) (defBody s_check_shot) (defScope s_check_shot) .none kV14 dc14 pm14 an14 cd14 ct14), sl14⟩) (c14 : PySem.W.codeIn K cd14 "check_shot" = true) (k14 : PySem.W.keepIn K (.ref f14) = true)
    (a15 : PySem.W.nsIn K mainGlobals "_check_all" = some (some (.ref f15))) (l15 : K.lookup f15 = some ⟨oc15, od15, .func (PySem.W.fnOf "_check_all" "_check_all" (defArgs s__check_all) (defBody s__check_all) (defScope s__check_all) .none kV15 dc15 pm15 an15 cd15 ct15), sl15⟩) (c15 : PySem.W.codeIn K cd15 "_check_all" = true) (k15 : PySem.W.keepIn K (.ref f15) = true)
    (a16 : PySem.W.nsIn K mainGlobals "_place" = some (some (.ref f16))) (l16 : K.lookup f16 = some ⟨oc16, od16, .func (PySem.W.fnOf "_place" "_place" (defArgs s__place) (defBody s__place) (defScope s__place) .none kV16 dc16 pm16 an16 cd16 ct16), sl16⟩) (c16 : PySem.W.codeIn K cd16 "_place" = true) (k16 : PySem.W.keepIn K (.ref f16) = true)
    (a17 : PySem.W.nsIn K mainGlobals "place_at" = some (some (.ref f17))) (l17 : K.lookup f17 = some ⟨oc17, od17, .func (PySem.W.fnOf "place_at" "place_at" (defArgs s_place_at) (defBody s_place_at) (defScope s_place_at) .none kV17 dc17 pm17 an17 cd17 ct17), sl17⟩) (c17 : PySem.W.codeIn K cd17 "place_at" = true) (k17 : PySem.W.keepIn K (.ref f17) = true)
    (a18 : PySem.W.nsIn K mainGlobals "_line_way" = some (some (.ref f18))) (l18 : K.lookup f18 = some ⟨oc18, od18, .func (PySem.W.fnOf "_line_way" "_line_way" (defArgs s__line_way) (defBody s__line_way) (defScope s__line_way) .none kV18 dc18 pm18 an18 cd18 ct18), sl18⟩) (c18 : PySem.W.codeIn K cd18 "_line_way" = true) (k18 : PySem.W.keepIn K (.ref f18) = true)
    (a19 : PySem.W.nsIn K mainGlobals "_way" = some (some (.ref f19))) (l19 : K.lookup f19 = some ⟨oc19, od19, .func (PySem.W.fnOf "_way" "_way" (defArgs s__way) (defBody s__way) (defScope s__way) .none kV19 dc19 pm19 an19 cd19 ct19), sl19⟩) (c19 : PySem.W.codeIn K cd19 "_way" = true) (k19 : PySem.W.keepIn K (.ref f19) = true)
    (a20 : PySem.W.nsIn K mainGlobals "way_at" = some (some (.ref f20))) (l20 : K.lookup f20 = some ⟨oc20, od20, .func (PySem.W.fnOf "way_at" "way_at" (defArgs s_way_at) (defBody s_way_at) (defScope s_way_at) .none kV20 dc20 pm20 an20 cd20 ct20), sl20⟩) (c20 : PySem.W.codeIn K cd20 "way_at" = true) (k20 : PySem.W.keepIn K (.ref f20) = true)
    (a21 : PySem.W.nsIn K mainGlobals "shot_at" = some (some (.ref f21))) (l21 : K.lookup f21 = some ⟨oc21, od21, .func (PySem.W.fnOf "shot_at" "shot_at" (defArgs s_shot_at) (defBody s_shot_at) (defScope s_shot_at) .none kV21 dc21 pm21 an21 cd21 ct21), sl21⟩) (c21 : PySem.W.codeIn K cd21 "shot_at" = true) (k21 : PySem.W.keepIn K (.ref f21) = true)
    (a22 : PySem.W.nsIn K mainGlobals "_law_well" = some (some (.ref f22))) (l22 : K.lookup f22 = some ⟨oc22, od22, .func (PySem.W.fnOf "_law_well" "_law_well" (defArgs s__law_well) (defBody s__law_well) (defScope s__law_well) .none kV22 dc22 pm22 an22 cd22 ct22), sl22⟩) (c22 : PySem.W.codeIn K cd22 "_law_well" = true) (k22 : PySem.W.keepIn K (.ref f22) = true)
    (a23 : PySem.W.nsIn K mainGlobals "_law_draw" = some (some (.ref f23))) (l23 : K.lookup f23 = some ⟨oc23, od23, .func (PySem.W.fnOf "_law_draw" "_law_draw" (defArgs s__law_draw) (defBody s__law_draw) (defScope s__law_draw) .none kV23 dc23 pm23 an23 cd23 ct23), sl23⟩) (c23 : PySem.W.codeIn K cd23 "_law_draw" = true) (k23 : PySem.W.keepIn K (.ref f23) = true)
    (a24 : PySem.W.nsIn K mainGlobals "_law_same" = some (some (.ref f24))) (l24 : K.lookup f24 = some ⟨oc24, od24, .func (PySem.W.fnOf "_law_same" "_law_same" (defArgs s__law_same) (defBody s__law_same) (defScope s__law_same) .none kV24 dc24 pm24 an24 cd24 ct24), sl24⟩) (c24 : PySem.W.codeIn K cd24 "_law_same" = true) (k24 : PySem.W.keepIn K (.ref f24) = true)
    (a25 : PySem.W.nsIn K mainGlobals "_law_desk" = some (some (.ref f25))) (l25 : K.lookup f25 = some ⟨oc25, od25, .func (PySem.W.fnOf "_law_desk" "_law_desk" (defArgs s__law_desk) (defBody s__law_desk) (defScope s__law_desk) .none kV25 dc25 pm25 an25 cd25 ct25), sl25⟩) (c25 : PySem.W.codeIn K cd25 "_law_desk" = true) (k25 : PySem.W.keepIn K (.ref f25) = true)
    (a26 : PySem.W.nsIn K mainGlobals "_law_roll" = some (some (.ref f26))) (l26 : K.lookup f26 = some ⟨oc26, od26, .func (PySem.W.fnOf "_law_roll" "_law_roll" (defArgs s__law_roll) (defBody s__law_roll) (defScope s__law_roll) .none kV26 dc26 pm26 an26 cd26 ct26), sl26⟩) (c26 : PySem.W.codeIn K cd26 "_law_roll" = true) (k26 : PySem.W.keepIn K (.ref f26) = true)
    (a27 : PySem.W.nsIn K mainGlobals "_law_low" = some (some (.ref f27))) (l27 : K.lookup f27 = some ⟨oc27, od27, .func (PySem.W.fnOf "_law_low" "_law_low" (defArgs s__law_low) (defBody s__law_low) (defScope s__law_low) .none kV27 dc27 pm27 an27 cd27 ct27), sl27⟩) (c27 : PySem.W.codeIn K cd27 "_law_low" = true) (k27 : PySem.W.keepIn K (.ref f27) = true)
    (a28 : PySem.W.nsIn K mainGlobals "_law_fold" = some (some (.ref f28))) (l28 : K.lookup f28 = some ⟨oc28, od28, .func (PySem.W.fnOf "_law_fold" "_law_fold" (defArgs s__law_fold) (defBody s__law_fold) (defScope s__law_fold) .none kV28 dc28 pm28 an28 cd28 ct28), sl28⟩) (c28 : PySem.W.codeIn K cd28 "_law_fold" = true) (k28 : PySem.W.keepIn K (.ref f28) = true)
    (a29 : PySem.W.nsIn K mainGlobals "_law_spot" = some (some (.ref f29))) (l29 : K.lookup f29 = some ⟨oc29, od29, .func (PySem.W.fnOf "_law_spot" "_law_spot" (defArgs s__law_spot) (defBody s__law_spot) (defScope s__law_spot) .none kV29 dc29 pm29 an29 cd29 ct29), sl29⟩) (c29 : PySem.W.codeIn K cd29 "_law_spot" = true) (k29 : PySem.W.keepIn K (.ref f29) = true)
    (a30 : PySem.W.nsIn K mainGlobals "_law_step" = some (some (.ref f30))) (l30 : K.lookup f30 = some ⟨oc30, od30, .func (PySem.W.fnOf "_law_step" "_law_step" (defArgs s__law_step) (defBody s__law_step) (defScope s__law_step) .none kV30 dc30 pm30 an30 cd30 ct30), sl30⟩) (c30 : PySem.W.codeIn K cd30 "_law_step" = true) (k30 : PySem.W.keepIn K (.ref f30) = true)
    (a31 : PySem.W.nsIn K mainGlobals "_law_hits" = some (some (.ref f31))) (l31 : K.lookup f31 = some ⟨oc31, od31, .func (PySem.W.fnOf "_law_hits" "_law_hits" (defArgs s__law_hits) (defBody s__law_hits) (defScope s__law_hits) .none kV31 dc31 pm31 an31 cd31 ct31), sl31⟩) (c31 : PySem.W.codeIn K cd31 "_law_hits" = true) (k31 : PySem.W.keepIn K (.ref f31) = true)
    (a32 : PySem.W.nsIn K mainGlobals "_law_way" = some (some (.ref f32))) (l32 : K.lookup f32 = some ⟨oc32, od32, .func (PySem.W.fnOf "_law_way" "_law_way" (defArgs s__law_way) (defBody s__law_way) (defScope s__law_way) .none kV32 dc32 pm32 an32 cd32 ct32), sl32⟩) (c32 : PySem.W.codeIn K cd32 "_law_way" = true) (k32 : PySem.W.keepIn K (.ref f32) = true)
    (a33 : PySem.W.nsIn K mainGlobals "_law_right" = some (some (.ref f33))) (l33 : K.lookup f33 = some ⟨oc33, od33, .func (PySem.W.fnOf "_law_right" "_law_right" (defArgs s__law_right) (defBody s__law_right) (defScope s__law_right) .none kV33 dc33 pm33 an33 cd33 ct33), sl33⟩) (c33 : PySem.W.codeIn K cd33 "_law_right" = true) (k33 : PySem.W.keepIn K (.ref f33) = true)
    (a34 : PySem.W.nsIn K mainGlobals "_law_small_right" = some (some (.ref f34))) (l34 : K.lookup f34 = some ⟨oc34, od34, .func (PySem.W.fnOf "_law_small_right" "_law_small_right" (defArgs s__law_small_right) (defBody s__law_small_right) (defScope s__law_small_right) .none kV34 dc34 pm34 an34 cd34 ct34), sl34⟩) (c34 : PySem.W.codeIn K cd34 "_law_small_right" = true) (k34 : PySem.W.keepIn K (.ref f34) = true)
    (a35 : PySem.W.nsIn K mainGlobals "_law_folds_right" = some (some (.ref f35))) (l35 : K.lookup f35 = some ⟨oc35, od35, .func (PySem.W.fnOf "_law_folds_right" "_law_folds_right" (defArgs s__law_folds_right) (defBody s__law_folds_right) (defScope s__law_folds_right) .none kV35 dc35 pm35 an35 cd35 ct35), sl35⟩) (c35 : PySem.W.codeIn K cd35 "_law_folds_right" = true) (k35 : PySem.W.keepIn K (.ref f35) = true)
    (a36 : PySem.W.nsIn K mainGlobals "law" = some (some (.ref f36))) (l36 : K.lookup f36 = some ⟨oc36, od36, .func (PySem.W.fnOf "law" "law" (defArgs s_law) (defBody s_law) (defScope s_law) .none kV36 dc36 pm36 an36 cd36 ct36), sl36⟩) (c36 : PySem.W.codeIn K cd36 "law" = true) (k36 : PySem.W.keepIn K (.ref f36) = true)
    (z_abs : PySem.W.nsIn K mainGlobals "abs" = some none)
    (z_all : PySem.W.nsIn K mainGlobals "all" = some none)
    (z_bool : PySem.W.nsIn K mainGlobals "bool" = some none)
    (z_gcd : PySem.W.nsIn K mainGlobals "gcd" = some (some (.builtin "math.gcd")))
    (z_int : PySem.W.nsIn K mainGlobals "int" = some none)
    (z_isinstance : PySem.W.nsIn K mainGlobals "isinstance" = some none)
    (z_len : PySem.W.nsIn K mainGlobals "len" = some none)
    (z_list : PySem.W.nsIn K mainGlobals "list" = some none)
    (z_max : PySem.W.nsIn K mainGlobals "max" = some none)
    (z_min : PySem.W.nsIn K mainGlobals "min" = some none)
    (z_range : PySem.W.nsIn K mainGlobals "range" = some none)
    (z_tuple : PySem.W.nsIn K mainGlobals "tuple" = some none)
    (x1_InvalidShot : PySem.W.nsIn K mainGlobals "InvalidShot" = some (some (.ref C_InvalidShot))) (x2_InvalidShot : PySem.W.excIn K C_InvalidShot [.type "ValueError", .type "Exception", .type "BaseException", .type "object"] "ValueError.__new__" = true) (x3_InvalidShot : PySem.W.keepIn K (.ref C_InvalidShot) = true)
    (x4_InvalidShot : PySem.W.subIn K (.ref C_InvalidShot) (.type "BaseException") = some true) (x5_InvalidShot : PySem.W.typeIn K (.ref C_InvalidShot) = some (.type "type"))
    (x1_InvalidSide : PySem.W.nsIn K mainGlobals "InvalidSide" = some (some (.ref C_InvalidSide))) (x2_InvalidSide : PySem.W.excIn K C_InvalidSide [.type "ValueError", .type "Exception", .type "BaseException", .type "object"] "ValueError.__new__" = true) (x3_InvalidSide : PySem.W.keepIn K (.ref C_InvalidSide) = true)
    (x4_InvalidSide : PySem.W.subIn K (.ref C_InvalidSide) (.type "BaseException") = some true) (x5_InvalidSide : PySem.W.typeIn K (.ref C_InvalidSide) = some (.type "type"))
    (x1_InvalidTable : PySem.W.nsIn K mainGlobals "InvalidTable" = some (some (.ref C_InvalidTable))) (x2_InvalidTable : PySem.W.excIn K C_InvalidTable [.type "ValueError", .type "Exception", .type "BaseException", .type "object"] "ValueError.__new__" = true) (x3_InvalidTable : PySem.W.keepIn K (.ref C_InvalidTable) = true)
    (x4_InvalidTable : PySem.W.subIn K (.ref C_InvalidTable) (.type "BaseException") = some true) (x5_InvalidTable : PySem.W.typeIn K (.ref C_InvalidTable) = some (.type "type"))
    (x1_InvalidTime : PySem.W.nsIn K mainGlobals "InvalidTime" = some (some (.ref C_InvalidTime))) (x2_InvalidTime : PySem.W.excIn K C_InvalidTime [.type "ValueError", .type "Exception", .type "BaseException", .type "object"] "ValueError.__new__" = true) (x3_InvalidTime : PySem.W.keepIn K (.ref C_InvalidTime) = true)
    (x4_InvalidTime : PySem.W.subIn K (.ref C_InvalidTime) (.type "BaseException") = some true) (x5_InvalidTime : PySem.W.typeIn K (.ref C_InvalidTime) = some (.type "type"))
    : ∃ fd : FuncData, (∀ (s : Shared) (u : Value), BindsTo s fd ⟨[u], []⟩ [("script", u)]) ∧ ∀ base : Heap, K.In base → base.Ns mainGlobals mg → FnG l.prog w K mg base 11 fa fd ["script"] (spL K) := by
  have e := hfa.symm.trans (PySem.W.mg_of X G0 a36)
  cases e
  let CN : String → Option Addr := fun s => if s = "InvalidShot" then some C_InvalidShot else if s = "InvalidSide" then some C_InvalidSide else if s = "InvalidTable" then some C_InvalidTable else if s = "InvalidTime" then some C_InvalidTime else none
  have g : G K mg CN := {
    b_abs := PySem.W.mg_none_of X G0 z_abs,
    b_all := PySem.W.mg_none_of X G0 z_all,
    b_bool := PySem.W.mg_none_of X G0 z_bool,
    b_gcd := PySem.W.mg_of X G0 z_gcd,
    b_int := PySem.W.mg_none_of X G0 z_int,
    b_isinstance := PySem.W.mg_none_of X G0 z_isinstance,
    b_len := PySem.W.mg_none_of X G0 z_len,
    b_list := PySem.W.mg_none_of X G0 z_list,
    b_max := PySem.W.mg_none_of X G0 z_max,
    b_min := PySem.W.mg_none_of X G0 z_min,
    b_range := PySem.W.mg_none_of X G0 z_range,
    b_tuple := PySem.W.mg_none_of X G0 z_tuple,
    x_InvalidShot := ⟨C_InvalidShot, by simp [CN], ⟨PySem.W.mg_of X G0 x1_InvalidShot, x2_InvalidShot, x3_InvalidShot, x4_InvalidShot, x5_InvalidShot⟩⟩,
    x_InvalidSide := ⟨C_InvalidSide, by simp [CN], ⟨PySem.W.mg_of X G0 x1_InvalidSide, x2_InvalidSide, x3_InvalidSide, x4_InvalidSide, x5_InvalidSide⟩⟩,
    x_InvalidTable := ⟨C_InvalidTable, by simp [CN], ⟨PySem.W.mg_of X G0 x1_InvalidTable, x2_InvalidTable, x3_InvalidTable, x4_InvalidTable, x5_InvalidTable⟩⟩,
    x_InvalidTime := ⟨C_InvalidTime, by simp [CN], ⟨PySem.W.mg_of X G0 x1_InvalidTime, x2_InvalidTime, x3_InvalidTime, x4_InvalidTime, x5_InvalidTime⟩⟩ }
  have F1 := fun_mk (st := s_is_whole) l1 c1 k1
  have b1 := F1.binds (ps := ["value"]) fun _ _ _ _ _ _ us hl => match us, hl with | [_], _ => rfl
  have F2 := fun_mk (st := s_are_whole) l2 c2 k2
  have b2 := F2.binds (ps := ["value", "many"]) fun _ _ _ _ _ _ us hl => match us, hl with | [_, _], _ => rfl
  have F3 := fun_mk (st := s_fraction_of) l3 c3 k3
  have b3 := F3.binds (ps := ["top", "bottom"]) fun _ _ _ _ _ _ us hl => match us, hl with | [_, _], _ => rfl
  have F4 := fun_mk (st := s__line_of) l4 c4 k4
  have b4 := F4.binds (ps := ["side", "start", "speed"]) fun _ _ _ _ _ _ us hl => match us, hl with | [_, _, _], _ => rfl
  have F5 := fun_mk (st := s_lines_of) l5 c5 k5
  have b5 := F5.binds (ps := ["table", "shot"]) fun _ _ _ _ _ _ us hl => match us, hl with | [_, _], _ => rfl
  have F6 := fun_mk (st := s_is_table) l6 c6 k6
  have b6 := F6.binds (ps := ["value"]) fun _ _ _ _ _ _ us hl => match us, hl with | [_], _ => rfl
  have F7 := fun_mk (st := s_check_table) l7 c7 k7
  have b7 := F7.binds (ps := ["table"]) fun _ _ _ _ _ _ us hl => match us, hl with | [_], _ => rfl
  have F8 := fun_mk (st := s_is_any_shot) l8 c8 k8
  have b8 := F8.binds (ps := ["value"]) fun _ _ _ _ _ _ us hl => match us, hl with | [_], _ => rfl
  have F9 := fun_mk (st := s_is_shot) l9 c9 k9
  have b9 := F9.binds (ps := ["table", "value"]) fun _ _ _ _ _ _ us hl => match us, hl with | [_, _], _ => rfl
  have F10 := fun_mk (st := s_is_fraction) l10 c10 k10
  have b10 := F10.binds (ps := ["value"]) fun _ _ _ _ _ _ us hl => match us, hl with | [_], _ => rfl
  have F11 := fun_mk (st := s__fold) l11 c11 k11
  have b11 := F11.binds (ps := ["side", "number"]) fun _ _ _ _ _ _ us hl => match us, hl with | [_, _], _ => rfl
  have F12 := fun_mk (st := s_check_time) l12 c12 k12
  have b12 := F12.binds (ps := ["time"]) fun _ _ _ _ _ _ us hl => match us, hl with | [_], _ => rfl
  have F13 := fun_mk (st := s_folded) l13 c13 k13
  have b13 := F13.binds (ps := ["side", "number"]) fun _ _ _ _ _ _ us hl => match us, hl with | [_, _], _ => rfl
  have F14 := fun_mk (st := s_check_shot) l14 c14 k14
  have b14 := F14.binds (ps := ["table", "shot"]) fun _ _ _ _ _ _ us hl => match us, hl with | [_, _], _ => rfl
  have F15 := fun_mk (st := s__check_all) l15 c15 k15
  have b15 := F15.binds (ps := ["table", "shot", "time"]) fun _ _ _ _ _ _ us hl => match us, hl with | [_, _, _], _ => rfl
  have F16 := fun_mk (st := s__place) l16 c16 k16
  have b16 := F16.binds (ps := ["table", "shot", "time"]) fun _ _ _ _ _ _ us hl => match us, hl with | [_, _, _], _ => rfl
  have F17 := fun_mk (st := s_place_at) l17 c17 k17
  have b17 := F17.binds (ps := ["table", "shot", "time"]) fun _ _ _ _ _ _ us hl => match us, hl with | [_, _, _], _ => rfl
  have F18 := fun_mk (st := s__line_way) l18 c18 k18
  have b18 := F18.binds (ps := ["line", "time"]) fun _ _ _ _ _ _ us hl => match us, hl with | [_, _], _ => rfl
  have F19 := fun_mk (st := s__way) l19 c19 k19
  have b19 := F19.binds (ps := ["table", "shot", "time"]) fun _ _ _ _ _ _ us hl => match us, hl with | [_, _, _], _ => rfl
  have F20 := fun_mk (st := s_way_at) l20 c20 k20
  have b20 := F20.binds (ps := ["table", "shot", "time"]) fun _ _ _ _ _ _ us hl => match us, hl with | [_, _, _], _ => rfl
  have F21 := fun_mk (st := s_shot_at) l21 c21 k21
  have b21 := F21.binds (ps := ["table", "shot", "time"]) fun _ _ _ _ _ _ us hl => match us, hl with | [_, _, _], _ => rfl
  have F22 := fun_mk (st := s__law_well) l22 c22 k22
  have b22 := F22.binds (ps := ["script", "at"]) fun _ _ _ _ _ _ us hl => match us, hl with | [_, _], _ => rfl
  have F23 := fun_mk (st := s__law_draw) l23 c23 k23
  have b23 := F23.binds (ps := ["well", "most"]) fun _ _ _ _ _ _ us hl => match us, hl with | [_, _], _ => rfl
  have F24 := fun_mk (st := s__law_same) l24 c24 k24
  have b24 := F24.binds (ps := ["found", "due"]) fun _ _ _ _ _ _ us hl => match us, hl with | [_, _], _ => rfl
  have F25 := fun_mk (st := s__law_desk) l25 c25 k25
  have b25 := F25.binds (ps := ["well", "most"]) fun _ _ _ _ _ _ us hl => match us, hl with | [_, _], _ => rfl
  have F26 := fun_mk (st := s__law_roll) l26 c26 k26
  have b26 := F26.binds (ps := ["well", "desk", "most"]) fun _ _ _ _ _ _ us hl => match us, hl with | [_, _, _], _ => rfl
  have F27 := fun_mk (st := s__law_low) l27 c27 k27
  have b27 := F27.binds (ps := ["top", "bottom"]) fun _ _ _ _ _ _ us hl => match us, hl with | [_, _], _ => rfl
  have F28 := fun_mk (st := s__law_fold) l28 c28 k28
  have b28 := F28.binds (ps := ["edge", "top", "bottom"]) fun _ _ _ _ _ _ us hl => match us, hl with | [_, _, _], _ => rfl
  have F29 := fun_mk (st := s__law_spot) l29 c29 k29
  have b29 := F29.binds (ps := ["desk", "shot_here", "top", "bottom"]) fun _ _ _ _ _ _ us hl => match us, hl with | [_, _, _, _], _ => rfl
  have F30 := fun_mk (st := s__law_step) l30 c30 k30
  have b30 := F30.binds (ps := ["desk", "shot_here"]) fun _ _ _ _ _ _ us hl => match us, hl with | [_, _], _ => rfl
  have F31 := fun_mk (st := s__law_hits) l31 c31 k31
  have b31 := F31.binds (ps := ["desk", "shot_here", "many"]) fun _ _ _ _ _ _ us hl => match us, hl with | [_, _, _], _ => rfl
  have F32 := fun_mk (st := s__law_way) l32 c32 k32
  have b32 := F32.binds (ps := ["desk", "shot_here", "time_here"]) fun _ _ _ _ _ _ us hl => match us, hl with | [_, _, _], _ => rfl
  have F33 := fun_mk (st := s__law_right) l33 c33 k33
  have b33 := F33.binds (ps := ["desk", "shot_here", "time_here"]) fun _ _ _ _ _ _ us hl => match us, hl with | [_, _, _], _ => rfl
  have F34 := fun_mk (st := s__law_small_right) l34 c34 k34
  have b34 := F34.binds (ps := ["well"]) fun _ _ _ _ _ _ us hl => match us, hl with | [_], _ => rfl
  have F35 := fun_mk (st := s__law_folds_right) l35 c35 k35
  have b35 := F35.binds (ps := ["well"]) fun _ _ _ _ _ _ us hl => match us, hl with | [_], _ => rfl
  have F36 := fun_mk (st := s_law) l36 c36 k36
  refine ⟨PySem.W.fnOf "law" "law" (defArgs s_law) (defBody s_law) (defScope s_law) .none kV36 dc36 pm36 an36 cd36 ct36, fun s v => .of_eq rfl, fun base _ _ => ?_⟩
  have o_is_whole := ok_is_whole F1 g (P := l.prog) (w := w) (base := base)
  have c_is_whole : CalP l.prog w K mg base CN 1 "is_whole" D_is_whole := ⟨_, _, _, o_is_whole, PySem.W.mg_of X G0 a1, k1, b1⟩
  have o_are_whole := ok_are_whole F2 g c_is_whole (P := l.prog) (w := w) (base := base)
  have c_are_whole : CalP l.prog w K mg base CN 2 "are_whole" D_are_whole := ⟨_, _, _, o_are_whole, PySem.W.mg_of X G0 a2, k2, b2⟩
  have o_fraction_of := ok_fraction_of F3 g (P := l.prog) (w := w) (base := base)
  have c_fraction_of : CalP l.prog w K mg base CN 1 "fraction_of" D_fraction_of := ⟨_, _, _, o_fraction_of, PySem.W.mg_of X G0 a3, k3, b3⟩
  have o__line_of := ok__line_of F4 g (P := l.prog) (w := w) (base := base)
  have c__line_of : CalP l.prog w K mg base CN 1 "_line_of" D__line_of := ⟨_, _, _, o__line_of, PySem.W.mg_of X G0 a4, k4, b4⟩
  have o_lines_of := ok_lines_of F5 g c__line_of (P := l.prog) (w := w) (base := base)
  have c_lines_of : CalP l.prog w K mg base CN 2 "lines_of" D_lines_of := ⟨_, _, _, o_lines_of, PySem.W.mg_of X G0 a5, k5, b5⟩
  have o_is_table := ok_is_table F6 g c_are_whole (P := l.prog) (w := w) (base := base)
  have c_is_table : CalP l.prog w K mg base CN 3 "is_table" D_is_table := ⟨_, _, _, o_is_table, PySem.W.mg_of X G0 a6, k6, b6⟩
  have o_check_table := ok_check_table F7 g c_is_table (P := l.prog) (w := w) (base := base)
  have c_check_table : CalP l.prog w K mg base CN 4 "check_table" D_check_table := ⟨_, _, _, o_check_table, PySem.W.mg_of X G0 a7, k7, b7⟩
  have o_is_any_shot := ok_is_any_shot F8 g c_are_whole (P := l.prog) (w := w) (base := base)
  have c_is_any_shot : CalP l.prog w K mg base CN 3 "is_any_shot" D_is_any_shot := ⟨_, _, _, o_is_any_shot, PySem.W.mg_of X G0 a8, k8, b8⟩
  have o_is_shot := ok_is_shot F9 g c_check_table c_is_any_shot (P := l.prog) (w := w) (base := base)
  have c_is_shot : CalP l.prog w K mg base CN 5 "is_shot" D_is_shot := ⟨_, _, _, o_is_shot, PySem.W.mg_of X G0 a9, k9, b9⟩
  have o_is_fraction := ok_is_fraction F10 g c_are_whole (P := l.prog) (w := w) (base := base)
  have c_is_fraction : CalP l.prog w K mg base CN 3 "is_fraction" D_is_fraction := ⟨_, _, _, o_is_fraction, PySem.W.mg_of X G0 a10, k10, b10⟩
  have o__fold := ok__fold F11 g (P := l.prog) (w := w) (base := base)
  have c__fold : CalP l.prog w K mg base CN 1 "_fold" D__fold := ⟨_, _, _, o__fold, PySem.W.mg_of X G0 a11, k11, b11⟩
  have o_check_time := ok_check_time F12 g c_is_fraction (P := l.prog) (w := w) (base := base)
  have c_check_time : CalP l.prog w K mg base CN 4 "check_time" D_check_time := ⟨_, _, _, o_check_time, PySem.W.mg_of X G0 a12, k12, b12⟩
  have o_folded := ok_folded F13 g c__fold c_check_time c_is_whole (P := l.prog) (w := w) (base := base)
  have c_folded : CalP l.prog w K mg base CN 5 "folded" D_folded := ⟨_, _, _, o_folded, PySem.W.mg_of X G0 a13, k13, b13⟩
  have kc_folded_0_number_side : CalK l.prog w K mg base CN 5 "folded" D_folded ["number", "side"] (gSel 0 2 [.k 1, .k 0]) := ⟨⟨_, _, _, o_folded, PySem.W.mg_of X G0 a13, k13, kbinds_of (by decide) fun s us ws h1 h2 => match us, ws, h1, h2 with | [], [_, _], _, _ => .of_eq rfl⟩, ord_sel _ _ _⟩
  have o_check_shot := ok_check_shot F14 g c_is_shot (P := l.prog) (w := w) (base := base)
  have c_check_shot : CalP l.prog w K mg base CN 6 "check_shot" D_check_shot := ⟨_, _, _, o_check_shot, PySem.W.mg_of X G0 a14, k14, b14⟩
  have o__check_all := ok__check_all F15 g c_check_shot c_check_time (P := l.prog) (w := w) (base := base)
  have c__check_all : CalP l.prog w K mg base CN 7 "_check_all" D__check_all := ⟨_, _, _, o__check_all, PySem.W.mg_of X G0 a15, k15, b15⟩
  have o__place := ok__place F16 g c__fold c_fraction_of c_lines_of (P := l.prog) (w := w) (base := base)
  have c__place : CalP l.prog w K mg base CN 3 "_place" D__place := ⟨_, _, _, o__place, PySem.W.mg_of X G0 a16, k16, b16⟩
  have o_place_at := ok_place_at F17 g c__check_all c__place (P := l.prog) (w := w) (base := base)
  have c_place_at : CalP l.prog w K mg base CN 8 "place_at" D_place_at := ⟨_, _, _, o_place_at, PySem.W.mg_of X G0 a17, k17, b17⟩
  have kc_place_at_0_time_shot_table : CalK l.prog w K mg base CN 8 "place_at" D_place_at ["time", "shot", "table"] (gSel 0 3 [.k 2, .k 1, .k 0]) := ⟨⟨_, _, _, o_place_at, PySem.W.mg_of X G0 a17, k17, kbinds_of (by decide) fun s us ws h1 h2 => match us, ws, h1, h2 with | [], [_, _, _], _, _ => .of_eq rfl⟩, ord_sel _ _ _⟩
  have o__line_way := ok__line_way F18 g (P := l.prog) (w := w) (base := base)
  have c__line_way : CalP l.prog w K mg base CN 1 "_line_way" D__line_way := ⟨_, _, _, o__line_way, PySem.W.mg_of X G0 a18, k18, b18⟩
  have o__way := ok__way F19 g c__line_way c_lines_of (P := l.prog) (w := w) (base := base)
  have c__way : CalP l.prog w K mg base CN 3 "_way" D__way := ⟨_, _, _, o__way, PySem.W.mg_of X G0 a19, k19, b19⟩
  have o_way_at := ok_way_at F20 g c__check_all c__way (P := l.prog) (w := w) (base := base)
  have c_way_at : CalP l.prog w K mg base CN 8 "way_at" D_way_at := ⟨_, _, _, o_way_at, PySem.W.mg_of X G0 a20, k20, b20⟩
  have kc_way_at_0_time_shot_table : CalK l.prog w K mg base CN 8 "way_at" D_way_at ["time", "shot", "table"] (gSel 0 3 [.k 2, .k 1, .k 0]) := ⟨⟨_, _, _, o_way_at, PySem.W.mg_of X G0 a20, k20, kbinds_of (by decide) fun s us ws h1 h2 => match us, ws, h1, h2 with | [], [_, _, _], _, _ => .of_eq rfl⟩, ord_sel _ _ _⟩
  have o_shot_at := ok_shot_at F21 g c__check_all c__place c__way (P := l.prog) (w := w) (base := base)
  have c_shot_at : CalP l.prog w K mg base CN 8 "shot_at" D_shot_at := ⟨_, _, _, o_shot_at, PySem.W.mg_of X G0 a21, k21, b21⟩
  have kc_shot_at_0_time_shot_table : CalK l.prog w K mg base CN 8 "shot_at" D_shot_at ["time", "shot", "table"] (gSel 0 3 [.k 2, .k 1, .k 0]) := ⟨⟨_, _, _, o_shot_at, PySem.W.mg_of X G0 a21, k21, kbinds_of (by decide) fun s us ws h1 h2 => match us, ws, h1, h2 with | [], [_, _, _], _, _ => .of_eq rfl⟩, ord_sel _ _ _⟩
  have o__law_well := ok_well F22 g.b_int g.b_len g.b_max g.b_abs (P := l.prog) (w := w) (mg := mg) (base := base)
  have c__law_well : CalL l.prog w K mg base 1 "_law_well" := ⟨_, _, _, o__law_well, PySem.W.mg_of X G0 a22, k22, b22⟩
  have o__law_draw := ok_draw F23 g.b_int (P := l.prog) (w := w) (mg := mg) (base := base)
  have c__law_draw : CalW l.prog w K mg base 1 "_law_draw" dDraw := ⟨_, _, _, o__law_draw, PySem.W.mg_of X G0 a23, k23, b23⟩
  have o__law_same := ok__law_same F24 (PySem.W.mg_of X G0 a24) b24 g  5 (P := l.prog) (w := w) (base := base)
  have c__law_same : CalP l.prog w K mg base CN 6 "_law_same" (D__law_same 5) := ⟨_, _, _, o__law_same, PySem.W.mg_of X G0 a24, k24, b24⟩
  have o__law_desk := ok__law_desk F25 g c__law_draw (P := l.prog) (w := w) (base := base)
  have c__law_desk : CalW l.prog w K mg base 2 "_law_desk" D__law_desk := ⟨_, _, _, o__law_desk, PySem.W.mg_of X G0 a25, k25, b25⟩
  have o__law_roll := ok__law_roll F26 g c__law_draw (P := l.prog) (w := w) (base := base)
  have c__law_roll : CalW l.prog w K mg base 2 "_law_roll" D__law_roll := ⟨_, _, _, o__law_roll, PySem.W.mg_of X G0 a26, k26, b26⟩
  have o__law_low := ok__law_low F27 g (P := l.prog) (w := w) (base := base)
  have c__law_low : CalP l.prog w K mg base CN 1 "_law_low" D__law_low := ⟨_, _, _, o__law_low, PySem.W.mg_of X G0 a27, k27, b27⟩
  have o__law_fold := ok__law_fold F28 g c__law_low (P := l.prog) (w := w) (base := base)
  have c__law_fold : CalP l.prog w K mg base CN 2 "_law_fold" D__law_fold := ⟨_, _, _, o__law_fold, PySem.W.mg_of X G0 a28, k28, b28⟩
  have o__law_spot := ok__law_spot F29 g c__law_fold (P := l.prog) (w := w) (base := base)
  have c__law_spot : CalP l.prog w K mg base CN 3 "_law_spot" D__law_spot := ⟨_, _, _, o__law_spot, PySem.W.mg_of X G0 a29, k29, b29⟩
  have o__law_step := ok__law_step F30 g c__law_low (P := l.prog) (w := w) (base := base)
  have c__law_step : CalP l.prog w K mg base CN 2 "_law_step" D__law_step := ⟨_, _, _, o__law_step, PySem.W.mg_of X G0 a30, k30, b30⟩
  have o__law_hits := ok__law_hits F31 g c__law_low c__law_step (P := l.prog) (w := w) (base := base)
  have c__law_hits : CalP l.prog w K mg base CN 3 "_law_hits" D__law_hits := ⟨_, _, _, o__law_hits, PySem.W.mg_of X G0 a31, k31, b31⟩
  have o__law_way := ok__law_way F32 g c__law_hits (P := l.prog) (w := w) (base := base)
  have c__law_way : CalP l.prog w K mg base CN 4 "_law_way" D__law_way := ⟨_, _, _, o__law_way, PySem.W.mg_of X G0 a32, k32, b32⟩
  have o__law_right := ok__law_right F33 g c__law_same c__law_spot c_place_at c_shot_at c_way_at kc_place_at_0_time_shot_table kc_way_at_0_time_shot_table kc_shot_at_0_time_shot_table (P := l.prog) (w := w) (base := base)
  have c__law_right : CalP l.prog w K mg base CN 9 "_law_right" D__law_right := ⟨_, _, _, o__law_right, PySem.W.mg_of X G0 a33, k33, b33⟩
  have o__law_small_right := ok__law_small_right F34 g c__law_desk c__law_draw c__law_hits c__law_low c__law_right c__law_roll c__law_way c_place_at c_way_at (P := l.prog) (w := w) (base := base)
  have c__law_small_right : CalW l.prog w K mg base 10 "_law_small_right" D__law_small_right := ⟨_, _, _, o__law_small_right, PySem.W.mg_of X G0 a34, k34, b34⟩
  have o__law_folds_right := ok__law_folds_right F35 g c__law_draw c__law_fold c__law_low c__law_same c_folded kc_folded_0_number_side (P := l.prog) (w := w) (base := base)
  have c__law_folds_right : CalW l.prog w K mg base 7 "_law_folds_right" D__law_folds_right := ⟨_, _, _, o__law_folds_right, PySem.W.mg_of X G0 a35, k35, b35⟩
  exact ok_law F36 g c__law_desk c__law_draw c__law_folds_right c__law_low c__law_right c__law_roll c__law_small_right c__law_well c_folded
end LW
open PySem PySem.W PyProof.Rows
set_option maxHeartbeats 0 in
theorem PySem.Challenge.cw_cushionshots_k02_places_and_ways_holds : PySem.Challenge.rw_cushionshots_k02_places_and_ways.Holds := by
  w_on; o_law; k_head; (case hw => w_witness2)
  k_fill
  refine DL.end_law (l := PySem.Challenge.rw_cushionshots_k02_places_and_ways) (k := 11) (x := "script") rfl rfl ⟨⟨rfl, by decide, by decide⟩, rfl⟩ (fun w h Y => PySem.W.kIn_of Y) ?F
  case F =>
    intro w mg fa h KX G hmg
    refine' LW.all_mk KX G hmg ?a1 ?l1 ?c1 ?k1 ?a2 ?l2 ?c2 ?k2 ?a3 ?l3 ?c3 ?k3 ?a4 ?l4 ?c4 ?k4 ?a5 ?l5 ?c5 ?k5 ?a6 ?l6 ?c6 ?k6 ?a7 ?l7 ?c7 ?k7 ?a8 ?l8 ?c8 ?k8 ?a9 ?l9 ?c9 ?k9 ?a10 ?l10 ?c10 ?k10 ?a11 ?l11 ?c11 ?k11 ?a12 ?l12 ?c12 ?k12 ?a13 ?l13 ?c13 ?k13 ?a14 ?l14 ?c14 ?k14 ?a15 ?l15 ?c15 ?k15 ?a16 ?l16 ?c16 ?k16 ?a17 ?l17 ?c17 ?k17 ?a18 ?l18 ?c18 ?k18 ?a19 ?l19 ?c19 ?k19 ?a20 ?l20 ?c20 ?k20 ?a21 ?l21 ?c21 ?k21 ?a22 ?l22 ?c22 ?k22 ?a23 ?l23 ?c23 ?k23 ?a24 ?l24 ?c24 ?k24 ?a25 ?l25 ?c25 ?k25 ?a26 ?l26 ?c26 ?k26 ?a27 ?l27 ?c27 ?k27 ?a28 ?l28 ?c28 ?k28 ?a29 ?l29 ?c29 ?k29 ?a30 ?l30 ?c30 ?k30 ?a31 ?l31 ?c31 ?k31 ?a32 ?l32 ?c32 ?k32 ?a33 ?l33 ?c33 ?k33 ?a34 ?l34 ?c34 ?k34 ?a35 ?l35 ?c35 ?k35 ?a36 ?l36 ?c36 ?k36 ?z_abs ?z_all ?z_bool ?z_gcd ?z_int ?z_isinstance ?z_len ?z_list ?z_max ?z_min ?z_range ?z_tuple ?x1_InvalidShot ?x2_InvalidShot ?x3_InvalidShot ?x4_InvalidShot ?x5_InvalidShot ?x1_InvalidSide ?x2_InvalidSide ?x3_InvalidSide ?x4_InvalidSide ?x5_InvalidSide ?x1_InvalidTable ?x2_InvalidTable ?x3_InvalidTable ?x4_InvalidTable ?x5_InvalidTable ?x1_InvalidTime ?x2_InvalidTime ?x3_InvalidTime ?x4_InvalidTime ?x5_InvalidTime
    (case a1 => k_is)
    (case l1 => k_is)
    (case c1 => k_is)
    (case k1 => k_is)
    (case a2 => k_is)
    (case l2 => k_is)
    (case c2 => k_is)
    (case k2 => k_is)
    (case a3 => k_is)
    (case l3 => k_is)
    (case c3 => k_is)
    (case k3 => k_is)
    (case a4 => k_is)
    (case l4 => k_is)
    (case c4 => k_is)
    (case k4 => k_is)
    (case a5 => k_is)
    (case l5 => k_is)
    (case c5 => k_is)
    (case k5 => k_is)
    (case a6 => k_is)
    (case l6 => k_is)
    (case c6 => k_is)
    (case k6 => k_is)
    (case a7 => k_is)
    (case l7 => k_is)
    (case c7 => k_is)
    (case k7 => k_is)
    (case a8 => k_is)
    (case l8 => k_is)
    (case c8 => k_is)
    (case k8 => k_is)
    (case a9 => k_is)
    (case l9 => k_is)
    (case c9 => k_is)
    (case k9 => k_is)
    (case a10 => k_is)
    (case l10 => k_is)
    (case c10 => k_is)
    (case k10 => k_is)
    (case a11 => k_is)
    (case l11 => k_is)
    (case c11 => k_is)
    (case k11 => k_is)
    (case a12 => k_is)
    (case l12 => k_is)
    (case c12 => k_is)
    (case k12 => k_is)
    (case a13 => k_is)
    (case l13 => k_is)
    (case c13 => k_is)
    (case k13 => k_is)
    (case a14 => k_is)
    (case l14 => k_is)
    (case c14 => k_is)
    (case k14 => k_is)
    (case a15 => k_is)
    (case l15 => k_is)
    (case c15 => k_is)
    (case k15 => k_is)
    (case a16 => k_is)
    (case l16 => k_is)
    (case c16 => k_is)
    (case k16 => k_is)
    (case a17 => k_is)
    (case l17 => k_is)
    (case c17 => k_is)
    (case k17 => k_is)
    (case a18 => k_is)
    (case l18 => k_is)
    (case c18 => k_is)
    (case k18 => k_is)
    (case a19 => k_is)
    (case l19 => k_is)
    (case c19 => k_is)
    (case k19 => k_is)
    (case a20 => k_is)
    (case l20 => k_is)
    (case c20 => k_is)
    (case k20 => k_is)
    (case a21 => k_is)
    (case l21 => k_is)
    (case c21 => k_is)
    (case k21 => k_is)
    (case a22 => k_is)
    (case l22 => k_is)
    (case c22 => k_is)
    (case k22 => k_is)
    (case a23 => k_is)
    (case l23 => k_is)
    (case c23 => k_is)
    (case k23 => k_is)
    (case a24 => k_is)
    (case l24 => k_is)
    (case c24 => k_is)
    (case k24 => k_is)
    (case a25 => k_is)
    (case l25 => k_is)
    (case c25 => k_is)
    (case k25 => k_is)
    (case a26 => k_is)
    (case l26 => k_is)
    (case c26 => k_is)
    (case k26 => k_is)
    (case a27 => k_is)
    (case l27 => k_is)
    (case c27 => k_is)
    (case k27 => k_is)
    (case a28 => k_is)
    (case l28 => k_is)
    (case c28 => k_is)
    (case k28 => k_is)
    (case a29 => k_is)
    (case l29 => k_is)
    (case c29 => k_is)
    (case k29 => k_is)
    (case a30 => k_is)
    (case l30 => k_is)
    (case c30 => k_is)
    (case k30 => k_is)
    (case a31 => k_is)
    (case l31 => k_is)
    (case c31 => k_is)
    (case k31 => k_is)
    (case a32 => k_is)
    (case l32 => k_is)
    (case c32 => k_is)
    (case k32 => k_is)
    (case a33 => k_is)
    (case l33 => k_is)
    (case c33 => k_is)
    (case k33 => k_is)
    (case a34 => k_is)
    (case l34 => k_is)
    (case c34 => k_is)
    (case k34 => k_is)
    (case a35 => k_is)
    (case l35 => k_is)
    (case c35 => k_is)
    (case k35 => k_is)
    (case a36 => k_is)
    (case l36 => k_is)
    (case c36 => k_is)
    (case k36 => k_is)
    (case z_abs => k_is)
    (case z_all => k_is)
    (case z_bool => k_is)
    (case z_gcd => k_is)
    (case z_int => k_is)
    (case z_isinstance => k_is)
    (case z_len => k_is)
    (case z_list => k_is)
    (case z_max => k_is)
    (case z_min => k_is)
    (case z_range => k_is)
    (case z_tuple => k_is)
    (case x1_InvalidShot => k_is)
    (case x2_InvalidShot => k_exc)
    (case x3_InvalidShot => k_is)
    (case x4_InvalidShot => k_is)
    (case x5_InvalidShot => k_is)
    (case x1_InvalidSide => k_is)
    (case x2_InvalidSide => k_exc)
    (case x3_InvalidSide => k_is)
    (case x4_InvalidSide => k_is)
    (case x5_InvalidSide => k_is)
    (case x1_InvalidTable => k_is)
    (case x2_InvalidTable => k_exc)
    (case x3_InvalidTable => k_is)
    (case x4_InvalidTable => k_is)
    (case x5_InvalidTable => k_is)
    (case x1_InvalidTime => k_is)
    (case x2_InvalidTime => k_exc)
    (case x3_InvalidTime => k_is)
    (case x4_InvalidTime => k_is)
    (case x5_InvalidTime => k_is)
