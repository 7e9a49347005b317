import PyProof.Rows.All
import Wide.All
import OpenK.AllK
import Wide.FinOn
import PyProof.EqLayable
import PyProof.EqAt
import PyProof.EqKinds
import PyProof.TupleCall
import HandS.ForExc
import HandS.Comp
import HandS.Iter
import HandS.Text
import HandS.Walk
import HandS.Wide
import HandS.IsInst
import HandS.Gcd
import HandS.TupAny
import HandS.Zip
import HandS.Rev
import HandS.ExcIs
import PyProof.Conv_int
import HandS.Dict
import PyProof.ReprReads
import PyProof.CallFns
import HandS.Style
import HandS.EndBits
import KE.KRevSl
import HandS.TupLe
import HandS.Conv
import HandS.SetFor
import PySem.Challenge.RW_cushionshots_k04_errors_of_places
set_option Elab.async false
set_option linter.all false
set_option maxRecDepth 100000
set_option maxHeartbeats 4000000
namespace DL
open PySem
/-- what a slot holds: nothing known | frozen data | a list that nobody else holds | the law's well, with a budget of draws | the script | a caught error, at a -/
inductive S where
  | no | va (d : PyData) | own (ds : List PyData) | well (n : Nat) | scr (ns : List Int) | exc (a : Addr)
abbrev DSt := List S
/-- the three numbers of a well that stands for n more draws -/
structure WellOk (n : Nat) (a b c : Int) : Prop where
  a0 : 0 ≤ a
  a1 : a.natAbs < 2 ^ 1100000
  b0 : 0 ≤ b
  b1 : b < 2 ^ 150
  c0 : 0 ≤ c
  c1 : c + n < 2 ^ 64
def sget : DSt → Nat → S
  | [], _ => .no
  | s :: _, 0 => s
  | _ :: r, n + 1 => sget r n
def sset : DSt → Nat → S → DSt
  | [], _, _ => []
  | _ :: r, 0, s => s :: r
  | x :: r, n + 1, s => x :: sset r n s
/-- the slots is forgotten -/
def swipe : DSt → List Nat → DSt
  | sd, [] => sd
  | sd, i :: is => sset (swipe sd is) i .no
/-- the slots is put back from s0 -/
def sback (s0 : DSt) : DSt → List Nat → DSt
  | sd, [] => sd
  | sd, i :: is => sset (sback s0 sd is) i (sget s0 i)
abbrev ME := DSt → (PyData → DSt → Prop) → Prop
abbrev MT := DSt → (Bool → DSt → Prop) → Prop
abbrev MA := DSt → (List PyData → DSt → Prop) → Prop
abbrev MR := DSt → (S → DSt → Prop) → Prop
abbrev MI := DSt → (List PyData → DSt → Prop) → Prop
abbrev MG := PyData → DSt → (DSt → Prop) → Prop
abbrev MGs := List PyData → DSt → (DSt → Prop) → Prop
/-- what is wished of a raise: the class's name, the state -/
abbrev WD := String → DSt → Prop
structure DE where
  nx : DSt → Prop
  rt : S → DSt → Prop
  bk : DSt → Prop := fun _ => False
  ct : DSt → Prop := fun _ => False
abbrev MS := DE → DSt → Prop
/-- a def's promise: no well | with the well as its first argument -/
abbrev PSpec := List PyData → (S → Prop) → (String → Prop) → Prop
abbrev WSpec := Nat → List PyData → (S → Nat → Prop) → Prop
def fz : S → Option PyData
  | .va d => some d
  | .own ds => some (.list ds)
  | _ => none
def mC (d : PyData) : ME := fun sd Q => Q d sd
def mVar (i : Nat) : ME := fun sd Q => match sget sd i with
  | .va d => Q d sd
  | .own ds => Q (.list ds) (sset sd i (.va (.list ds)))
  | _ => False
def mOp2 (f : PyData → PyData → Option PyData) (ma mb : ME) : ME := fun sd Q => ma sd fun a s1 => mb s1 fun b s2 => ∃ r, f a b = some r ∧ Q r s2
def mOp1 (f : PyData → Option PyData) (ma : ME) : ME := fun sd Q => ma sd fun a s1 => ∃ r, f a = some r ∧ Q r s1
def mAnd (ma mb : ME) : ME := fun sd Q => ma sd fun a s1 => ∃ c, a = .bool c ∧ if c = true then mb s1 Q else Q (.bool false) s1
def mOr (ma mb : ME) : ME := fun sd Q => ma sd fun a s1 => ∃ c, a = .bool c ∧ if c = true then Q (.bool true) s1 else mb s1 Q
def mNot (ma : ME) : ME := fun sd Q => ma sd fun a s1 => ∃ c, a = .bool c ∧ Q (.bool (!c)) s1
def mIfE (mt : MT) (ma mb : ME) : ME := fun sd Q => mt sd fun c s1 => if c = true then ma s1 Q else mb s1 Q
/-- a < b < c: f a b, then g b c -/
def mChain (f g : PyData → PyData → Option PyData) (ma mb mc : ME) : ME := fun sd Q => ma sd fun a s1 => mb s1 fun b s2 => ∃ c, f a b = some (.bool c) ∧ if c = true then mc s2 fun d s3 => ∃ r, g b d = some r ∧ Q r s3 else Q (.bool false) s2
def mNil : MA := fun sd Q => Q [] sd
def mCons (me : ME) (ma : MA) : MA := fun sd Q => me sd fun d s1 => ma s1 fun ds s2 => Q (d :: ds) s2
def mTup (ma : MA) : ME := fun sd Q => ma sd fun ds s1 => ds.length ≤ 100000 ∧ Q (.tuple ds) s1
def mLst (ma : MA) : ME := fun sd Q => ma sd fun ds s1 => ds.length ≤ 100000 ∧ Q (.list ds) s1
def mCallB (f : List PyData → Option PyData) (ma : MA) : ME := fun sd Q => ma sd fun ds s1 => ∃ r, f ds = some r ∧ Q r s1
def mDict0 : ME := fun sd Q => Q (.dict []) sd
/-- a slice: parts given or left out -/
def mPart (me : ME) : DSt → (Option Int → DSt → Prop) → Prop := fun sd Q => me sd fun d s1 => ∃ i, d = .int i ∧ Q (some i) s1
def mNoPart : DSt → (Option Int → DSt → Prop) → Prop := fun sd Q => Q none sd
def mSl (f : PyData → Option Int → Option Int → Option PyData) (me : ME) (ml mh : DSt → (Option Int → DSt → Prop) → Prop) : ME :=
  fun sd Q => me sd fun d s1 => ml s1 fun l s2 => mh s2 fun h s3 => ∃ r, f d l h = some r ∧ Q r s3
/-- a call of an own def -/
def mCall (spec : PSpec) (W : WD) (ma : MA) : ME := fun sd Q => ma sd fun ds s1 => spec ds (fun r => ∃ d, fz r = some d ∧ Q d s1) (fun c => W c s1)
/-- .. by keywords: the arguments as they are given, then put into the def's order -/
def mCallK (spec : PSpec) (W : WD) (g : List PyData → List PyData → List PyData) (ma mk : MA) : ME :=
  fun sd Q => ma sd fun ds s1 => mk s1 fun es s2 => spec (g ds es) (fun r => ∃ d, fz r = some d ∧ Q d s2) (fun c => W c s2)
/-- .. with the well in slot i as its first argument -/
def mCallW (spec : WSpec) (i : Nat) (ma : MA) : ME := fun sd Q => (∃ n, sget sd i = .well n) ∧ ma sd fun ds s1 => ∃ n, sget s1 i = .well n ∧ spec n ds fun r n' => ∃ d, fz r = some d ∧ Q d (sset s1 i (.well n'))
/-- len of a list that is still owned -/
def mLenOwn (i : Nat) : ME := fun sd Q => ∃ ds, sget sd i = .own ds ∧ Q (.int (ds.length : Int)) sd
/-- len of the script; an item of it; the well that is made from it -/
def mLenScr (i : Nat) : ME := fun sd Q => ∃ ns, sget sd i = .scr ns ∧ Q (.int (ns.length : Int)) sd
def mT (me : ME) : MT := fun sd Q => me sd fun d s1 => ∃ c, d = .bool c ∧ Q c s1
def mTAnd (t u : MT) : MT := fun sd Q => t sd fun c s1 => if c = true then u s1 Q else Q false s1
def mTOr (t u : MT) : MT := fun sd Q => t sd fun c s1 => if c = true then Q true s1 else u s1 Q
def mTNot (t : MT) : MT := fun sd Q => t sd fun c s1 => Q (!c) s1
def mTYes : MT := fun sd Q => Q true sd
def mrOf (me : ME) : MR := fun sd Q => me sd fun d s1 => Q (.va d) s1
def mrLst (ma : MA) : MR := fun sd Q => ma sd fun ds s1 => ds.length ≤ 100000 ∧ Q (.own ds) s1
def mrCall (spec : PSpec) (W : WD) (ma : MA) : MR := fun sd Q => ma sd fun ds s1 => spec ds (fun r => Q r s1) (fun c => W c s1)
def mgName (i : Nat) : MG := fun d sd Q => Q (sset sd i (.va d))
def mgNil : MGs := fun ds sd Q => ds = [] ∧ Q sd
def mgCons (g : MG) (gs : MGs) : MGs := fun ds sd Q => ∃ d r, ds = d :: r ∧ g d sd fun s1 => gs r s1 Q
def items : PyData → Option (List PyData)
  | .tuple ds => some ds
  | .list ds => some ds
  | _ => none
def mgTup (n : Nat) (gs : MGs) : MG := fun d sd Q => ∃ ds, items d = some ds ∧ ds.length = n ∧ gs ds sd Q
def miSeq (me : ME) : MI := fun sd Q => me sd fun d s1 => ∃ ds, items d = some ds ∧ Q ds s1
def rangeL (lo : Int) (n : Nat) : List PyData := (List.range n).map fun i : Nat => .int (lo + (i : Int))
def miRng1 (ma : MA) : MI := fun sd Q => ma sd fun ds s1 => ∃ j : Int, ds = [.int j] ∧ -(2 ^ 62) ≤ j ∧ j < 2 ^ 62 ∧ Q (rangeL 0 j.toNat) s1
def miRng2 (ma : MA) : MI := fun sd Q => ma sd fun ds s1 => ∃ i j : Int, ds = [.int i, .int j] ∧ (-(2 ^ 62) ≤ i ∧ i < 2 ^ 62 ∧ -(2 ^ 62) ≤ j ∧ j < 2 ^ 62) ∧ Q (rangeL i (j - i).toNat) s1
def signsD (z : Str) : List PyData := z.cps.toList.map fun c => .str ⟨#[c]⟩
def miStr (me : ME) : MI := fun sd Q => me sd fun d s1 => ∃ z, d = .str z ∧ Q (signsD z) s1
def enumL : Nat → List PyData → List PyData
  | _, [] => []
  | k, d :: ds => .tuple [.int (k : Int), d] :: enumL (k + 1) ds
def miEnum (ma : MA) : MI := fun sd Q => ma sd fun ds s1 => ∃ xs, ds = [.list xs] ∧ Q (enumL 0 xs) s1
def zipL : List PyData → List PyData → List PyData
  | x :: xs, y :: ys => .tuple [x, y] :: zipL xs ys
  | _, _ => []
def miZip (ma : MA) : MI := fun sd Q => ma sd fun ds s1 => ∃ xs ys, (ds = [.list xs, .list ys] ∨ ds = [.tuple xs, .tuple ys]) ∧ Q (zipL xs ys) s1
def miRev (me : ME) : MI := fun sd Q => me sd fun d s1 => ∃ ds, items d = some ds ∧ Q ds.reverse s1
def lcL (mg : MG) (mt : MT) (me : ME) (vs : List Nat) (Q : List PyData → DSt → Prop) : List PyData → DSt → List PyData → Prop
  | [], s, acc => Q acc s
  | d :: ds, s, acc => mg d (swipe s vs) fun s1 => mt s1 fun b s2 => if b = true then me s2 fun y s3 => acc.length < 100000 ∧ lcL mg mt me vs Q ds s3 (acc ++ [y]) else lcL mg mt me vs Q ds s2 acc
def unOwn (s : DSt) (vs : List Nat) : Bool := vs.all fun j => match sget s j with
  | .own _ => false
  | .well _ => false
  | _ => true
def mLc (mi : MI) (mg : MG) (mt : MT) (me : ME) (vs : List Nat) : ME := fun sd Q => mi sd fun ds s => unOwn s vs = true ∧ lcL mg mt me vs (fun out s' => Q (.list out) (sback s s' vs)) ds s []
def mrLc (mi : MI) (mg : MG) (mt : MT) (me : ME) (vs : List Nat) : MR := fun sd Q => mi sd fun ds s => unOwn s vs = true ∧ lcL mg mt me vs (fun out s' => Q (.own out) (sback s s' vs)) ds s []
def mNext : MS := fun D sd => D.nx sd
def mBreak : MS := fun D sd => D.bk sd
def mCont : MS := fun D sd => D.ct sd
def mSeq (a b : MS) : MS := fun D sd => a { D with nx := b D } sd
def mAsg (me : ME) (mg : MG) : MS := fun D sd => me sd fun d s1 => mg d s1 D.nx
def mAsgR (i : Nat) (mr : MR) : MS := fun D sd => mr sd fun r s1 => D.nx (sset s1 i r)
/-- a, b = x, y: the values in their order, then the slots -/
def mrs : List MR → DSt → (List S → DSt → Prop) → Prop
  | [], sd, Q => Q [] sd
  | m :: ms, sd, Q => m sd fun r s1 => mrs ms s1 fun rs s2 => Q (r :: rs) s2
def ssets : DSt → List Nat → List S → DSt
  | sd, i :: is, r :: rs => ssets (sset sd i r) is rs
  | sd, _, _ => sd
def mAsgM (is : List Nat) (ms : List MR) : MS := fun D sd => mrs ms sd fun rs s1 => rs.length = is.length ∧ D.nx (ssets s1 is rs)
def mIf (t : MT) (a b : MS) : MS := fun D sd => t sd fun c s1 => if c = true then a D s1 else b D s1
def mRet (mr : MR) : MS := fun D sd => mr sd D.rt
def mRetOwn (i : Nat) : MR := fun sd Q => match sget sd i with
  | .own ds => Q (.own ds) sd
  | .well n => Q (.well n) sd
  | _ => False
def mRetN : MS := fun D sd => D.rt (.va .none) sd
def mDrop (me : ME) : MS := fun D sd => me sd fun _ s1 => D.nx s1
def mApp (i : Nat) (me : ME) : MS := fun D sd => (∃ ds, sget sd i = .own ds) ∧ me sd fun d s1 => ∃ ds, sget s1 i = .own ds ∧ ds.length < 100000 ∧ D.nx (sset s1 i (.own (ds ++ [d])))
def forL (mg : MG) (body : MS) (D : DE) : List PyData → DSt → Prop
  | [], s => D.nx s
  | d :: ds, s => mg d s fun s1 => body { D with nx := forL mg body D ds, ct := forL mg body D ds, bk := D.nx } s1
def mFor (mi : MI) (mg : MG) (body : MS) : MS := fun D sd => mi sd fun ds s => forL mg body D ds s
def whileN (t : MT) (body : MS) (D : DE) : Nat → DSt → Prop
  | 0, _ => False
  | n + 1, s => t s fun b s1 => if b = true then body { D with nx := whileN t body D n, ct := whileN t body D n, bk := D.nx } s1 else D.nx s1
def mWhile (t : MT) (body : MS) : MS := fun D sd => ∃ n, whileN t body D n sd
def mRaise (c : String) (W : WD) : MS := fun _ sd => W c sd
def small (a b : Int) : Bool := decide (a.natAbs.log2 + b.natAbs.log2 < 1000000)
def opAdd : PyData → PyData → Option PyData
  | .int a, .int b => some (.int (a + b))
  | .str a, .str b => if a.length + b.length ≤ 100000 then some (.str (a ++ b)) else none
  | .list a, .list b => if a.length + b.length ≤ 100000 then some (.list (a ++ b)) else none
  | .tuple a, .tuple b => if a.length + b.length ≤ 100000 then some (.tuple (a ++ b)) else none
  | _, _ => none
def opSub : PyData → PyData → Option PyData
  | .int a, .int b => some (.int (a - b))
  | _, _ => none
def opMul : PyData → PyData → Option PyData
  | .int a, .int b => if small a b = true then some (.int (a * b)) else none
  | .list a, .int k => if 0 ≤ k ∧ k ≤ 1000 ∧ a.length ≤ 1000 then some (.list (List.replicate k.toNat a).flatten) else none
  | _, _ => none
def opMod : PyData → PyData → Option PyData
  | .int a, .int b => if 0 < b then some (.int (a % b)) else none
  | _, _ => none
def opFdiv : PyData → PyData → Option PyData
  | .int a, .int b => if 0 < b ∧ b.natAbs.log2 < 9000 then some (.int (a / b)) else none
  | _, _ => none
def cmpI (p : Int → Int → Bool) : PyData → PyData → Option PyData
  | .int a, .int b => some (.bool (p a b))
  | _, _ => none
def opLt := cmpI fun a b => decide (a < b)
def opLe := cmpI fun a b => decide (a ≤ b)
def opGt := cmpI fun a b => decide (b < a)
def opGe := cmpI fun a b => decide (b ≤ a)
def strs? : PyData → PyData → Option (Str × Str)
  | .str x, .str y => some (x, y)
  | _, _ => none
def opEq (a b : PyData) : Option PyData := if (SeqAt.shaped a && SeqAt.shaped b) = true then some (.bool (PyData.eqv a b)) else (strs? a b).map fun p => .bool (decide (p.1 = p.2))
def opNe (a b : PyData) : Option PyData := if (SeqAt.shaped a && SeqAt.shaped b) = true then some (.bool (!PyData.eqv a b)) else (strs? a b).map fun p => .bool (!decide (p.1 = p.2))
def isN : PyData → Bool
  | .none => true
  | _ => false
/-- x is None, x is not None -/
def opIsN2 (a : PyData) : PyData → Option PyData
  | .none => some (.bool (isN a))
  | _ => none
def opNotN2 (a : PyData) : PyData → Option PyData
  | .none => some (.bool (!isN a))
  | _ => none
/-- x is True, where x is a bool -/
def opIsB : PyData → PyData → Option PyData
  | .bool a, .bool b => some (.bool (decide (a = b)))
  | _, _ => none
def opNotB : PyData → PyData → Option PyData
  | .bool a, .bool b => some (.bool (!decide (a = b)))
  | _, _ => none
def opPow : PyData → PyData → Option PyData
  | .int a, .int b => if 0 ≤ b ∧ b ≤ 100 ∧ a.natAbs < 2 ^ 10000 then some (.int (a ^ b.toNat)) else none
  | _, _ => none
def flatD : PyData → Bool
  | .none | .bool _ | .int _ | .str _ => true
  | _ => false
/-- x in a list or a tuple of flat things -/
def opInS (neg : Bool) (a b : PyData) : Option PyData := (items b).bind fun ds => if (flatD a && ds.all flatD) = true then some (.bool (if neg then !ds.any (fun d => PyData.eqv d a) else ds.any fun d => PyData.eqv d a)) else none
/-- .. or one sign in a text -/
def sign? (z : Str) : Option Nat := match z.cps.toList with
  | [c] => some c
  | _ => none
theorem sign_of {z : Str} {c : Nat} (h : sign? z = some c) : z = ⟨#[c]⟩ := by
  unfold sign? at h
  split at h
  · rename_i c' e
    cases h
    obtain ⟨⟨l⟩⟩ := z
    have e' : l = [c] := e
    rw [e']
  · cases h
def opIn : PyData → PyData → Option PyData
  | .str c, .str z => (sign? c).map fun c => .bool (decide (c ∈ z.cps.toList))
  | a, b => opInS false a b
def opNotIn : PyData → PyData → Option PyData
  | .str c, .str z => (sign? c).map fun c => .bool (!decide (c ∈ z.cps.toList))
  | a, b => opInS true a b
def opNeg : PyData → Option PyData
  | .int a => some (.int (-a))
  | _ => none
def ixN (n : Nat) (i : Int) : Option Nat := if 0 ≤ i then (if i < n then some i.toNat else none) else if -(n : Int) ≤ i then some (i + n).toNat else none
def atI {α : Type} (xs : List α) (i : Int) : Option α := (ixN xs.length i).bind fun j => xs[j]?
def opIx : PyData → PyData → Option PyData
  | .list xs, .int i => atI xs i
  | .tuple xs, .int i => atI xs i
  | .str z, .int i => if z.length ≤ 100000 then (atI z.cps.toList i).map fun c => .str ⟨#[c]⟩ else none
  | _, _ => none
def sIx (n d : Nat) : Option Int → Nat
  | .none => d
  | .some v => if v < 0 then (v + (n : Int)).toNat else min v.toNat n
def cutL {α : Type} (xs : List α) (lo hi : Option Int) : List α := (xs.drop (sIx xs.length 0 lo)).take (sIx xs.length xs.length hi - sIx xs.length 0 lo)
def opSl (d : PyData) (lo hi : Option Int) : Option PyData := match d with
  | .list xs => some (.list (cutL xs lo hi))
  | .tuple xs => some (.tuple (cutL xs lo hi))
  | .str z => if z.length ≤ 100000 then some (.str ⟨(cutL z.cps.toList lo hi).toArray⟩) else none
  | _ => none
/-- x[::-1] -/
def opRev : PyData → Option PyData
  | .list xs => some (.list xs.reverse)
  | .tuple xs => some (.tuple xs.reverse)
  | _ => none
def bLen : List PyData → Option PyData
  | [.list xs] => some (.int (xs.length : Int))
  | [.tuple xs] => some (.int (xs.length : Int))
  | [.str z] => if z.length ≤ 100000 then some (.int (z.length : Int)) else none
  | _ => none
def bAbs : List PyData → Option PyData
  | [.int i] => some (.int (if i < 0 then -i else i))
  | _ => none
def bMax : List PyData → Option PyData
  | [.int i, .int j] => some (.int (if j > i then j else i))
  | _ => none
def bMin : List PyData → Option PyData
  | [.int i, .int j] => some (.int (if j < i then j else i))
  | _ => none
def bInt : List PyData → Option PyData
  | [.int i] => some (.int i)
  | _ => none
def bGcd : List PyData → Option PyData
  | [.int i, .int j] => some (.int ((Nat.gcd i.natAbs j.natAbs : Nat) : Int))
  | _ => none
def bools : List PyData → Option (List Bool)
  | [] => some []
  | .bool b :: r => (bools r).map (b :: ·)
  | _ :: _ => none
def bAll : List PyData → Option PyData
  | [.list xs] => (bools xs).map fun bs => .bool (bs.all id)
  | _ => none
def bAny : List PyData → Option PyData
  | [.list xs] => (bools xs).map fun bs => .bool (bs.any id)
  | _ => none
def bList : List PyData → Option PyData
  | [.list xs] => some (.list xs)
  | [.tuple xs] => some (.list xs)
  | _ => none
/-- the kinds that isinstance asks for -/
inductive Ki where | kInt | kBool | kStr | kTup | kLst | kDict
  deriving DecidableEq
def isK : Ki → PyData → Bool
  | .kInt, .int _ => true
  | .kInt, .bool _ => true
  | .kBool, .bool _ => true
  | .kStr, .str _ => true
  | .kTup, .tuple _ => true
  | .kLst, .list _ => true
  | .kDict, .dict _ => true
  | _, _ => false
def bIsi (ks : List Ki) : PyData → Option PyData := fun d => some (.bool (ks.any fun k => isK k d))
def slots0 (n : Nat) (ds : List PyData) : DSt := ds.map S.va ++ List.replicate (n - ds.length) .no
def endP (Q : S → Prop) : DE := { nx := fun _ => Q (.va .none), rt := fun r _ => Q r }
def slotsW (N n : Nat) (ds : List PyData) : DSt := .well n :: slots0 (N - 1) ds
def endW (Q : S → Nat → Prop) : DE := { nx := fun sd => ∃ n, sget sd 0 = .well n ∧ Q (.va .none) n, rt := fun r sd => ∃ n, sget sd 0 = .well n ∧ Q r n }
def endL : DE := { nx := fun _ => False, rt := fun r _ => r = .va (.bool true) }
/-- the well that is made from the script in slot i -/
def mrWell (i : Nat) (me : ME) : MR := fun sd Q => me sd fun d s1 => ∃ ns k, sget s1 i = .scr ns ∧ d = .int k ∧ 0 ≤ k ∧ k < 2 ^ 20 ∧ Q (.well (2 ^ 60)) s1
def wF : WD := fun _ _ => False
end DL
namespace DL
open PySem PySem.Spec PyProof.Rows L2
def keyD : Key → PyData
  | .inl i => .int i
  | .inr x => .str x
mutual
inductive Rp (K : PySem.W.Frag) (F : Hp) : V → PyData → Prop
  | non : Rp K F .non .none
  | bl (b : Bool) : Rp K F (.bl b) (.bool b)
  | int (i : Int) : Rp K F (.int i) (.int i)
  | str (x : Str) : Rp K F (.str x) (.str x)
  | lst {a : Addr} {xs : List V} {ds : List PyData} : F a = some (.lst xs) → RpA K F xs ds → Rp K F (.ref a) (.list ds)
  | tup {a : Addr} {xs : List V} {ds : List PyData} : SqT K F a xs → RpA K F xs ds → Rp K F (.ref a) (.tuple ds)
  | dct {a : Addr} {kvs : List (Key × V)} {es : List (PyData × PyData)} : F a = some (.dK kvs) → RpD K F kvs es → Rp K F (.ref a) (.dict es)
inductive RpA (K : PySem.W.Frag) (F : Hp) : List V → List PyData → Prop
  | nil : RpA K F [] []
  | cons {v : V} {vs : List V} {d : PyData} {ds : List PyData} : Rp K F v d → RpA K F vs ds → RpA K F (v :: vs) (d :: ds)
inductive RpD (K : PySem.W.Frag) (F : Hp) : List (Key × V) → List (PyData × PyData) → Prop
  | nil : RpD K F [] []
  | cons {k : Key} {v : V} {kvs : List (Key × V)} {d : PyData} {es : List (PyData × PyData)} : Rp K F v d → RpD K F kvs es → RpD K F ((k, v) :: kvs) ((keyD k, d) :: es)
end
theorem same_rd {H H' : Hp} {a : Addr} {u : HO} (e : Same H H') (h : Rd H a u) : Rd H' a u := by
  rcases h with h | ⟨o, h⟩
  · exact .inl (e _ _ h)
  · exact .inr ⟨o, e _ _ h⟩
theorem same_t {K : PySem.W.Frag} {H H' : Hp} {a : Addr} {xs : List V} (e : Same H H') (h : SqT K H a xs) : SqT K H' a xs := by
  rcases h with (h | ⟨o, h⟩) | h
  · exact .inl (.inl (e _ _ h))
  · exact .inl (.inr ⟨o, e _ _ h⟩)
  · exact .inr h
section
variable {K : PySem.W.Frag} {F F' H H' H1 : Hp} {v : V} {vs : List V} {d : PyData} {ds : List PyData}
mutual
theorem Rp.mono (e : Same F F') : ∀ {d : PyData} {v : V}, Rp K F v d → Rp K F' v d
  | .none, _, .non => .non
  | .bool _, _, .bl b => .bl b
  | .int _, _, .int i => .int i
  | .str _, _, .str x => .str x
  | .list _, _, .lst h r => .lst (e _ _ h) (RpA.mono e r)
  | .tuple _, _, .tup h r => .tup (same_t e h) (RpA.mono e r)
  | .dict _, _, .dct h r => .dct (e _ _ h) (RpD.mono e r)
theorem RpA.mono (e : Same F F') : ∀ {ds : List PyData} {vs : List V}, RpA K F vs ds → RpA K F' vs ds
  | [], _, .nil => .nil
  | _ :: _, _, .cons h r => .cons (Rp.mono e h) (RpA.mono e r)
theorem RpD.mono (e : Same F F') : ∀ {es : List (PyData × PyData)} {kvs : List (Key × V)}, RpD K F kvs es → RpD K F' kvs es
  | [], _, .nil => .nil
  | _ :: _, _, .cons h r => .cons (Rp.mono e h) (RpD.mono e r)
end
mutual
theorem Rp.dp (e : Same F H) : ∀ {d : PyData} {v : V}, d.canLay0 = true → Rp K F v d → Dp K H v d
  | .none, _, _, .non => .non
  | .bool _, _, _, .bl b => .bl b
  | .int _, _, _, .int i => .int i
  | .str _, _, _, .str x => .str x
  | .list _, _, c, .lst h r => .lst (.inl (.inl (e _ _ h))) (RpA.dp e (by simpa [PyData.canLay0] using c) r)
  | .tuple _, _, c, .tup h r => .tup (same_t e h) (RpA.dp e (by simpa [PyData.canLay0] using c) r)
theorem RpA.dp (e : Same F H) : ∀ {ds : List PyData} {vs : List V}, PyData.canLayAll0 ds = true → RpA K F vs ds → DpAll K H vs ds
  | [], _, _, .nil => .nil
  | _ :: _, _, c, .cons h r => .cons (Rp.dp e (by have := c; simp only [PyData.canLayAll0, Bool.and_eq_true] at this; exact this.1) h) (RpA.dp e (by have := c; simp only [PyData.canLayAll0, Bool.and_eq_true] at this; exact this.2) r)
end
theorem RpA.length : ∀ {vs : List V} {ds : List PyData}, RpA K F vs ds → vs.length = ds.length
  | _, _, .nil => rfl
  | _, _, .cons _ r => by simp [RpA.length r]
theorem RpA.get : ∀ {vs : List V} {ds : List PyData} {i : Nat} {d : PyData}, RpA K F vs ds → ds[i]? = some d → ∃ v, vs[i]? = some v ∧ Rp K F v d
  | _, _, _, _, .nil, h => by simp at h
  | _, _, 0, _, .cons h _, e => by simp at e; subst e; exact ⟨_, rfl, h⟩
  | _, _, i + 1, _, .cons _ r, e => by
    obtain ⟨v, h1, h2⟩ := RpA.get (i := i) r (by simpa using e)
    exact ⟨v, by simpa using h1, h2⟩
theorem RpA.append : ∀ {vs ws : List V} {ds es : List PyData}, RpA K F vs ds → RpA K F ws es → RpA K F (vs ++ ws) (ds ++ es)
  | _, _, _, _, .nil, s => s
  | _, _, _, _, .cons h r, s => .cons h (RpA.append r s)
theorem RpA.take : ∀ {vs : List V} {ds : List PyData} (n : Nat), RpA K F vs ds → RpA K F (vs.take n) (ds.take n)
  | _, _, 0, _ => .nil
  | _, _, _ + 1, .nil => .nil
  | _, _, n + 1, .cons h r => .cons h (RpA.take n r)
theorem RpA.drop : ∀ {vs : List V} {ds : List PyData} (n : Nat), RpA K F vs ds → RpA K F (vs.drop n) (ds.drop n)
  | _, _, 0, r => r
  | _, _, _ + 1, .nil => .nil
  | _, _, n + 1, .cons _ r => RpA.drop n r
theorem RpA.snoc (h : RpA K F vs ds) (q : Rp K F v d) : RpA K F (vs ++ [v]) (ds ++ [d]) := h.append (.cons q .nil)
theorem RpA.reverse : ∀ {vs : List V} {ds : List PyData}, RpA K F vs ds → RpA K F vs.reverse ds.reverse
  | _, _, .nil => .nil
  | _, _, .cons h r => by simp only [List.reverse_cons]; exact (RpA.reverse r).snoc h
end
def gv (σ : L2.St) (i : Nat) : Option V := (σ[i]?).join
theorem gv_some {σ : L2.St} {i : Nat} {v : V} : gv σ i = some v ↔ σ[i]? = some (some v) := by
  unfold gv
  cases h : σ[i]? with
  | none => simp
  | some x => simp
theorem gv_set {σ : L2.St} {i : Nat} {x : Option V} (h : i < σ.length) : gv (σ.set i x) i = x := by
  unfold gv; rw [List.getElem?_set_self h]; rfl
theorem gv_set_ne {σ : L2.St} {i j : Nat} {x : Option V} (h : j ≠ i) : gv (σ.set i x) j = gv σ j := by
  unfold gv; rw [List.getElem?_set_ne (Ne.symm h)]
theorem sset_length : ∀ {sd : DSt} {i : Nat} {s : S}, (sset sd i s).length = sd.length
  | [], _, _ => rfl
  | _ :: _, 0, _ => rfl
  | _ :: r, i + 1, s => by simp [sset, sset_length]
theorem sget_sset : ∀ {sd : DSt} {i : Nat} {s : S}, i < sd.length → sget (sset sd i s) i = s
  | [], _, _, h => by simp at h
  | _ :: _, 0, _, _ => rfl
  | _ :: r, i + 1, s, h => by simp only [sset, sget]; exact sget_sset (by simpa using h)
theorem sget_sset_ne : ∀ {sd : DSt} {i j : Nat} {s : S}, j ≠ i → sget (sset sd i s) j = sget sd j
  | [], _, _, _, _ => rfl
  | _ :: _, 0, 0, _, h => absurd rfl h
  | _ :: _, 0, j + 1, _, _ => rfl
  | _ :: _, i + 1, 0, _, _ => rfl
  | _ :: r, i + 1, j + 1, s, h => by simp only [sset, sget]; exact sget_sset_ne (by omega)
theorem sget_out : ∀ {sd : DSt} {i : Nat}, sd.length ≤ i → sget sd i = .no
  | [], _, _ => rfl
  | _ :: _, 0, h => by simp at h
  | _ :: r, i + 1, h => by simp only [sget]; exact sget_out (by simpa using h)
/-- a def's entry: the frozen heap, the heap, the addresses that were handed over to be changed -/
structure Ct where
  F0 : Hp
  H0 : Hp
  B : Addr → Prop
  isW : Bool
def SlotOk (K : PySem.W.Frag) (C : Ct) (F H : Hp) (x : Option V) : S → Prop
  | .no => True
  | .va d => ∃ v, x = some v ∧ Rp K F v d
  | .own ds => ∃ p vs, x = some (.ref p) ∧ H p = some (.lst vs) ∧ F p = none ∧ C.H0 p = none ∧ RpA K F vs ds
  | .scr ns => ∃ p, x = some (.ref p) ∧ SqL K F p (ns.map V.int)
  | .exc a => x = some (.ref a)
  | .well n => ∃ p a b c, x = some (.ref p) ∧ H p = some (.lst [.int a, .int b, .int c]) ∧ F p = none ∧ ((C.isW = true ∧ C.B p) ∨ (C.isW = false ∧ C.H0 p = none)) ∧ WellOk n a b c
def isOwn : S → Bool
  | .own _ => true
  | .well _ => true
  | _ => false
def Owned (σ : L2.St) (sd : DSt) (a : Addr) : Prop := ∃ i, isOwn (sget sd i) = true ∧ gv σ i = some (.ref a)
structure Rs (K : PySem.W.Frag) (C : Ct) (F H : Hp) (σ : L2.St) (sd : DSt) : Prop where
  len : σ.length = sd.length
  grow : Same C.F0 F
  ext : Same F H
  new : ∀ a o, F a = some o → C.F0 a = some o ∨ C.H0 a = none
  keep : ∀ a o, C.H0 a = some o → ¬ C.B a → H a = some o
  still : ∀ a, H a = none → C.H0 a = none
  slot : ∀ i, SlotOk K C F H (gv σ i) (sget sd i)
  sep : ∀ i j p, i ≠ j → isOwn (sget sd i) = true → isOwn (sget sd j) = true → gv σ i = some (.ref p) → gv σ j ≠ some (.ref p)
/-- what an expression does to the state -/
structure Stp (σ : L2.St) (sd : DSt) (F H F' H' : Hp) (sd' : DSt) : Prop where
  fr : Same F F'
  kp : ∀ a o, H a = some o → ¬ Owned σ sd a → H' a = some o
  ow : ∀ a, Owned σ sd' a → Owned σ sd a
  nw : ∀ a o, F' a = some o → F a = some o ∨ H a = none ∨ Owned σ sd a
  st : ∀ a, H' a = none → H a = none
section
variable {K : PySem.W.Frag} {C : Ct} {F F1 F2 F' H H1 H2 H' : Hp} {σ : L2.St} {sd sd1 sd2 sd' : DSt} {p : Addr} {o : HO}
theorem Stp.refl : Stp σ sd F H F H sd := ⟨Same.refl _, fun _ _ h _ => h, fun _ h => h, fun _ _ h => .inl h, fun _ h => h⟩
theorem Stp.trans (a : Stp σ sd F H F1 H1 sd1) (b : Stp σ sd1 F1 H1 F2 H2 sd2) : Stp σ sd F H F2 H2 sd2 where
  fr := a.fr.trans b.fr
  kp := fun x o h n => b.kp x o (a.kp x o h n) fun z => n (a.ow x z)
  ow := fun x h => a.ow x (b.ow x h)
  nw := fun x o h => by
    rcases b.nw x o h with h | h | h
    · exact a.nw x o h
    · exact .inr (.inl (a.st x h))
    · exact .inr (.inr (a.ow x h))
  st := fun x h => a.st x (b.st x h)
/-- nothing, or one new object, known to all -/
inductive Al (F H : Hp) : Hp → Hp → Prop
  | id : Al F H F H
  | new {p : Addr} {o : HO} (h : H p = none) : Al F H (upd F p o) (upd H p o)
theorem same_new (h : H p = none) : Same H (upd H p o) := fun b x e => by
  rw [upd_ne (ne_of_none e h)]; exact e
theorem SlotOk.grow {x : Option V} {s : S} (e : Same F F') (k : ∀ q o, isOwn s = true → x = some (.ref q) → H q = some o → F q = none → H' q = some o ∧ F' q = none) (h : SlotOk K C F H x s) : SlotOk K C F' H' x s := by
  cases s with
  | no => trivial
  | va d => obtain ⟨v, e1, r⟩ := h; exact ⟨v, e1, r.mono e⟩
  | own ds =>
    obtain ⟨q, vs, e1, e2, e3, e4, r⟩ := h
    obtain ⟨k1, k2⟩ := k q _ rfl e1 e2 e3
    exact ⟨q, vs, e1, k1, k2, e4, r.mono e⟩
  | scr ns => obtain ⟨q, e1, e2⟩ := h; exact ⟨q, e1, e.seq e2⟩
  | exc a => exact h
  | well n =>
    obtain ⟨q, a, b, c, e1, e2, e3, e4, r⟩ := h
    obtain ⟨k1, k2⟩ := k q _ rfl e1 e2 e3
    exact ⟨q, a, b, c, e1, k1, k2, e4, r⟩
theorem Rs.free (R : Rs K C F H σ sd) (h : H p = none) : F p = none := by
  cases e : F p with
  | none => rfl
  | some x => rw [R.ext _ _ e] at h; cases h
theorem Rs.alloc (R : Rs K C F H σ sd) (h : H p = none) : Rs K C (upd F p o) (upd H p o) σ sd where
  len := R.len
  grow := R.grow.trans (same_new (R.free h))
  ext := fun a x e => by
    by_cases z : a = p
    · subst z; rw [upd_same] at e ⊢; exact e
    · rw [upd_ne z] at e ⊢; exact R.ext a x e
  new := fun a x e => by
    by_cases z : a = p
    · subst z; exact .inr (R.still a h)
    · rw [upd_ne z] at e; exact R.new a x e
  keep := fun a x e n => same_new h a x (R.keep a x e n)
  still := fun a e => by
    by_cases z : a = p
    · subst z; exact R.still a h
    · rw [upd_ne z] at e; exact R.still a e
  slot := fun i => (R.slot i).grow (same_new (R.free h)) fun q x _ _ e n => ⟨same_new h q x e, by rw [upd_ne (ne_of_none e h)]; exact n⟩
  sep := R.sep
/-- a new object that nobody will look at -/
theorem Rs.allocH (R : Rs K C F H σ sd) (h : H p = none) : Rs K C F (upd H p o) σ sd where
  len := R.len
  grow := R.grow
  ext := fun a x e => same_new h a x (R.ext a x e)
  new := R.new
  keep := fun a x e n => same_new h a x (R.keep a x e n)
  still := fun a e => by
    by_cases z : a = p
    · subst z; exact R.still a h
    · rw [upd_ne z] at e; exact R.still a e
  slot := fun i => (R.slot i).grow (Same.refl _) fun q x _ _ e n => ⟨same_new h q x e, n⟩
  sep := R.sep
theorem Rs.al (R : Rs K C F H σ sd) (a : Al F H F' H') : Rs K C F' H' σ sd := by
  cases a with
  | id => exact R
  | new h => exact R.alloc h
theorem Stp.al (R : Rs K C F H σ sd) (a : Al F H F' H') : Stp σ sd F H F' H' sd := by
  cases a with
  | id => exact .refl
  | @new p o h =>
    refine ⟨same_new (R.free h), fun x o e _ => same_new h x o e, fun _ h => h, fun x o e => ?_, fun x e => ?_⟩
    · by_cases z : x = p
      · subst z; exact .inr (.inl h)
      · rw [upd_ne z] at e; exact .inl e
    · by_cases z : x = p
      · subst z; exact h
      · rw [upd_ne z] at e; exact e
theorem Rs.lt_of_own (R : Rs K C F H σ sd) {i : Nat} (h : sget sd i ≠ .no) : i < sd.length := by
  apply Classical.byContradiction
  intro z
  exact h (sget_out (by omega))
/-- a slot gets frozen data -/
theorem Rs.setva (R : Rs K C F H σ sd) {i : Nat} {v : V} {d : PyData} (r : Rp K F v d) : Rs K C F H (σ.set i (some v)) (sset sd i (.va d)) where
  len := by rw [List.length_set, sset_length]; exact R.len
  grow := R.grow
  ext := R.ext
  new := R.new
  keep := R.keep
  still := R.still
  slot := fun j => by
    by_cases hj : j = i
    · subst hj
      by_cases hl : j < sd.length
      · rw [sget_sset hl, gv_set (by rw [R.len]; exact hl)]
        exact ⟨v, rfl, r⟩
      · rw [sget_out (by rw [sset_length]; omega)]; trivial
    · rw [sget_sset_ne hj, gv_set_ne hj]; exact R.slot j
  sep := fun j k q hjk o1 o2 e1 => by
    have n1 : j ≠ i := fun z => by
      subst z
      by_cases hl : j < sd.length
      · rw [sget_sset hl] at o1; cases o1
      · rw [sget_out (by rw [sset_length]; omega)] at o1; cases o1
    have n2 : k ≠ i := fun z => by
      subst z
      by_cases hl : k < sd.length
      · rw [sget_sset hl] at o2; cases o2
      · rw [sget_out (by rw [sset_length]; omega)] at o2; cases o2
    rw [sget_sset_ne n1] at o1
    rw [sget_sset_ne n2] at o2
    rw [gv_set_ne n1] at e1
    rw [gv_set_ne n2]
    exact R.sep j k q hjk o1 o2 e1
/-- a slot is forgotten -/
theorem Rs.setno (R : Rs K C F H σ sd) {i : Nat} {x : Option V} : Rs K C F H (σ.set i x) (sset sd i .no) where
  len := by rw [List.length_set, sset_length]; exact R.len
  grow := R.grow
  ext := R.ext
  new := R.new
  keep := R.keep
  still := R.still
  slot := fun j => by
    by_cases hj : j = i
    · subst hj
      by_cases hl : j < sd.length
      · rw [sget_sset hl]; trivial
      · rw [sget_out (by rw [sset_length]; omega)]; trivial
    · rw [sget_sset_ne hj, gv_set_ne hj]; exact R.slot j
  sep := fun j k q hjk o1 o2 e1 => by
    have n1 : j ≠ i := fun z => by
      subst z
      by_cases hl : j < sd.length
      · rw [sget_sset hl] at o1; cases o1
      · rw [sget_out (by rw [sset_length]; omega)] at o1; cases o1
    have n2 : k ≠ i := fun z => by
      subst z
      by_cases hl : k < sd.length
      · rw [sget_sset hl] at o2; cases o2
      · rw [sget_out (by rw [sset_length]; omega)] at o2; cases o2
    rw [sget_sset_ne n1] at o1
    rw [sget_sset_ne n2] at o2
    rw [gv_set_ne n1] at e1
    rw [gv_set_ne n2]
    exact R.sep j k q hjk o1 o2 e1
/-- a result: frozen, or a list (a well) that nobody else holds -/
def RvOk (K : PySem.W.Frag) (C : Ct) (F H : Hp) (v : V) : S → Prop := SlotOk K C F H (some v)
/-- .. and not one of the slots' -/
def Fre (σ : L2.St) (sd : DSt) (v : V) (r : S) : Prop := isOwn r = true → ∀ q, v = .ref q → ¬ Owned σ sd q
theorem Rs.setr (R : Rs K C F H σ sd) {i : Nat} {v : V} {r : S} (h : RvOk K C F H v r) (n : Fre σ sd v r) : Rs K C F H (σ.set i (some v)) (sset sd i r) where
  len := by rw [List.length_set, sset_length]; exact R.len
  grow := R.grow
  ext := R.ext
  new := R.new
  keep := R.keep
  still := R.still
  slot := fun j => by
    by_cases hj : j = i
    · subst hj
      by_cases hl : j < sd.length
      · rw [sget_sset hl, gv_set (by rw [R.len]; exact hl)]
        exact h
      · rw [sget_out (by rw [sset_length]; omega)]; trivial
    · rw [sget_sset_ne hj, gv_set_ne hj]; exact R.slot j
  sep := fun j k q hjk o1 o2 e1 e2 => by
    have at_i : ∀ m, m = i → isOwn (sget (sset sd i r) m) = true → gv (σ.set i (some v)) m = some (.ref q) → isOwn r = true ∧ v = .ref q := fun m z o e => by
      subst z
      by_cases hl : m < sd.length
      · rw [sget_sset hl] at o
        rw [gv_set (by rw [R.len]; exact hl)] at e
        exact ⟨o, Option.some.inj e⟩
      · rw [sget_out (by rw [sset_length]; omega)] at o; cases o
    by_cases hj : j = i
    · obtain ⟨a1, a2⟩ := at_i j hj o1 e1
      have hk : k ≠ i := fun z => hjk (hj.trans z.symm)
      rw [sget_sset_ne hk] at o2
      rw [gv_set_ne hk] at e2
      exact n a1 q a2 ⟨k, o2, e2⟩
    · rw [sget_sset_ne hj] at o1
      rw [gv_set_ne hj] at e1
      by_cases hk : k = i
      · obtain ⟨a1, a2⟩ := at_i k hk o2 e2
        exact n a1 q a2 ⟨j, o1, e1⟩
      · rw [sget_sset_ne hk] at o2
        rw [gv_set_ne hk] at e2
        exact R.sep j k q hjk o1 o2 e1 e2
/-- an owned list is handed to all -/
theorem Rs.freeze (R : Rs K C F H σ sd) {i : Nat} {ds : List PyData} (h : sget sd i = .own ds) :
    ∃ v F', gv σ i = some v ∧ Rs K C F' H σ (sset sd i (.va (.list ds))) ∧ Stp σ sd F H F' H (sset sd i (.va (.list ds))) ∧ Rp K F' v (.list ds) := by
  have hi := R.slot i
  rw [h] at hi
  obtain ⟨p, vs, e1, e2, e3, e4, r⟩ := hi
  have hl : i < sd.length := R.lt_of_own (by rw [h]; intro z; cases z)
  have sF : Same F (upd F p (.lst vs)) := same_new e3
  have rp : Rp K (upd F p (.lst vs)) (.ref p) (.list ds) := .lst upd_same (r.mono sF)
  have own_i : Owned σ sd p := ⟨i, by rw [h]; rfl, e1⟩
  refine ⟨.ref p, upd F p (.lst vs), e1, ?_, ?_, rp⟩
  · refine ⟨by rw [sset_length]; exact R.len, R.grow.trans sF, fun a x e => ?_, fun a x e => ?_, R.keep, R.still, fun j => ?_, fun j k q hjk o1 o2 z1 => ?_⟩
    · by_cases z : a = p
      · subst z; rw [upd_same] at e; cases e; exact e2
      · rw [upd_ne z] at e; exact R.ext a x e
    · by_cases z : a = p
      · subst z; exact .inr e4
      · rw [upd_ne z] at e; exact R.new a x e
    · by_cases hj : j = i
      · subst hj; rw [sget_sset hl, e1]; exact ⟨_, rfl, rp⟩
      · rw [sget_sset_ne hj]
        refine (R.slot j).grow sF fun q x ho eq eh en => ⟨eh, ?_⟩
        have : q ≠ p := fun z => by
          subst z
          exact R.sep i j q (Ne.symm hj) (by rw [h]; rfl) ho e1 eq
        rw [upd_ne this]; exact en
    · have n1 : j ≠ i := fun z => by subst z; rw [sget_sset hl] at o1; cases o1
      have n2 : k ≠ i := fun z => by subst z; rw [sget_sset hl] at o2; cases o2
      rw [sget_sset_ne n1] at o1
      rw [sget_sset_ne n2] at o2
      exact R.sep j k q hjk o1 o2 z1
  · refine ⟨sF, fun a x e _ => e, fun a z => ?_, fun a x e => ?_, fun a e => e⟩
    · obtain ⟨j, o, e⟩ := z
      have n1 : j ≠ i := fun z => by subst z; rw [sget_sset hl] at o; cases o
      rw [sget_sset_ne n1] at o
      exact ⟨j, o, e⟩
    · by_cases z : a = p
      · subst z; exact .inr (.inr own_i)
      · rw [upd_ne z] at e; exact .inl e
end
section
variable (K : PySem.W.Frag) (C : Ct)
def tD (m : ME) : TE := fun σ H Q => ∃ F sd Qd, Rs K C F H σ sd ∧ m sd Qd ∧ ∀ v H' F' d sd', Rs K C F' H' σ sd' → Stp σ sd F H F' H' sd' → Rp K F' v d → Qd d sd' → Q v H'
def tDR (m : MR) : TE := fun σ H Q => ∃ F sd Qd, Rs K C F H σ sd ∧ m sd Qd ∧ ∀ v H' F' r sd', Rs K C F' H' σ sd' → Stp σ sd F H F' H' sd' → RvOk K C F' H' v r → Fre σ sd' v r → (isOwn r = true → ∀ q, v = .ref q → H q = none) → Qd r sd' → Q v H'
def tDT (m : MT) : TT := fun σ H Q => ∃ F sd Qd, Rs K C F H σ sd ∧ m sd Qd ∧ ∀ b H' F' sd', Rs K C F' H' σ sd' → Stp σ sd F H F' H' sd' → Qd b sd' → Q b H'
def tDA (m : MA) : TA := fun σ H Q => ∃ F sd Qd, Rs K C F H σ sd ∧ m sd Qd ∧ ∀ vs H' F' ds sd', Rs K C F' H' σ sd' → Stp σ sd F H F' H' sd' → RpA K F' vs ds → Qd ds sd' → Q vs H'
def tDG (m : MG) : TG := fun v σ H Q => ∃ F sd d Qd, Rs K C F H σ sd ∧ Rp K F v d ∧ m d sd Qd ∧ ∀ σ' sd', Rs K C F H σ' sd' → Qd sd' → Q σ' H
def tDGs (m : MGs) : TGs := fun vs σ H Q => ∃ F sd ds Qd, Rs K C F H σ sd ∧ RpA K F vs ds ∧ m ds sd Qd ∧ ∀ σ' sd', Rs K C F H σ' sd' → Qd sd' → Q σ' H
/-- what is wished of a raise -/
def wD (CN : String → Option Addr) (W : WD) : WX := fun cls d σ H => ∃ c a F sd, CN c = some a ∧ cls = .ref a ∧ d = none ∧ Rs K C F H σ sd ∧ W c sd
/-- what follows, from the frozen heap F0 on: the readings of D are those of Dd -/
structure EndOk (F0 : Hp) (Dd : DE) (D : Ends) : Prop where
  nx : ∀ F H σ sd, Same F0 F → Rs K C F H σ sd → Dd.nx sd → D.nx σ H
  rt : ∀ F H σ sd v r, Same F0 F → Rs K C F H σ sd → RvOk K C F H v r → (isOwn r = true → ∀ q, v = .ref q → C.H0 q = none) → Dd.rt r sd → D.rt v H
  bk : ∀ F H σ sd, Same F0 F → Rs K C F H σ sd → Dd.bk sd → D.bk σ H
  ct : ∀ F H σ sd, Same F0 F → Rs K C F H σ sd → Dd.ct sd → D.ct σ H
def tDS (m : MS) : TS := fun D σ H => ∃ F sd Dd, Rs K C F H σ sd ∧ EndOk K C F Dd D ∧ m Dd sd
/-- an iterator that gives the data ds, one by one -/
structure Wk (J : It) (F0 : Hp) (ds : List PyData) : Prop where
  ex : ∃ (G : Hp → Prop) (Y : Nat → Hp → V → Hp → Prop), Walk J ds.length G Y ∧ (∀ H, Same F0 H → G H) ∧
    ∀ i H x H' F, i < ds.length → Same F0 F → Same F H → Y i H x H' → ∃ F' d, Al F H F' H' ∧ ds[i]? = some d ∧ Rp K F' x d
def tDI (m : MI) : TI := fun σ H R => ∃ F sd Qd, Rs K C F H σ sd ∧ m sd Qd ∧ ∀ J H' F' ds sd', Rs K C F' H' σ sd' → Stp σ sd F H F' H' sd' → Wk K J F' ds → Qd ds sd' → R J H'
end
theorem EndOk.mono {K : PySem.W.Frag} {C : Ct} {F F' : Hp} {Dd : DE} {D : Ends} (E : EndOk K C F Dd D) (s : Same F F') : EndOk K C F' Dd D :=
  ⟨fun F1 H σ sd e => E.nx F1 H σ sd (s.trans e), fun F1 H σ sd v r e => E.rt F1 H σ sd v r (s.trans e), fun F1 H σ sd e => E.bk F1 H σ sd (s.trans e), fun F1 H σ sd e => E.ct F1 H σ sd (s.trans e)⟩
end DL
namespace DL
open PySem PySem.Spec PyProof.Rows L2
section
variable {X : Cx}
theorem pe_imp {e : Expr} {t t' : TE} (h : PE X e t) (i : ∀ σ H Q, t' σ H Q → t σ H Q) : PE X e t' := ⟨fun pins s σ H Q I q => h.run pins s σ H Q I (i _ _ _ q)⟩
theorem pt_imp {e : Expr} {t t' : TT} (h : PT X e t) (i : ∀ σ H Q, t' σ H Q → t σ H Q) : PT X e t' := ⟨fun pins s σ H Q I q => h.run pins s σ H Q I (i _ _ _ q)⟩
theorem pw_imp {e : Expr} {t t' : TT} (h : PW X e t) (i : ∀ σ H Q, t' σ H Q → t σ H Q) : PW X e t' := ⟨fun wh pins s σ H Q I q => h.run wh pins s σ H Q I (i _ _ _ q)⟩
theorem pa_imp {e : List Expr} {t t' : TA} (h : PA X e t) (i : ∀ σ H Q, t' σ H Q → t σ H Q) : PA X e t' := ⟨fun pos pins s σ H Q I q => h.run pos pins s σ H Q I (i _ _ _ q)⟩
theorem pk_imp {e : List Keyword} {t t' : TA} (h : PK X e t) (i : ∀ σ H Q, t' σ H Q → t σ H Q) : PK X e t' := ⟨fun pos pins s σ H Q I q => h.run pos pins s σ H Q I (i _ _ _ q)⟩
theorem pg_imp {e : Expr} {t t' : TG} (h : PG X e t) (i : ∀ v σ H Q, t' v σ H Q → t v σ H Q) : PG X e t' := ⟨fun pins s σ H v u Q I r q => h.run pins s σ H v u Q I r (i _ _ _ _ q)⟩
theorem pgs_imp {e : List Expr} {t t' : TGs} (h : PGs X e t) (i : ∀ v σ H Q, t' v σ H Q → t v σ H Q) : PGs X e t' := ⟨fun pins s σ H v u Q I r q => h.run pins s σ H v u Q I r (i _ _ _ _ q)⟩
theorem pi_imp {tg e : Expr} {t t' : TI} (h : PI X tg e t) (i : ∀ σ H Q, t' σ H Q → t σ H Q) : PI X tg e t' := ⟨fun pins s σ H Q I q => h.run pins s σ H Q I (i _ _ _ q)⟩
theorem ps_imp {e : Stmt} {t t' : TS} (h : PS X e t) (i : ∀ D σ H, t' D σ H → t D σ H) : PS X e t' := ⟨fun pins s σ H D I q => h.run pins s σ H D I (i _ _ _ q)⟩
theorem pss_imp {e : List Stmt} {t t' : TS} (h : PSs X e t) (i : ∀ D σ H, t' D σ H → t D σ H) : PSs X e t' := ⟨fun pins s σ H D I q => h.run pins s σ H D I (i _ _ _ q)⟩
theorem pg_or {e : Expr} {t t' : TG} (h : PG X e t) (h' : PG X e t') : PG X e (fun v σ H Q => t v σ H Q ∨ t' v σ H Q) :=
  ⟨fun pins s σ H v u Q I r q => q.elim (h.run pins s σ H v u Q I r) (h'.run pins s σ H v u Q I r)⟩
end
section
variable {K : PySem.W.Frag} {C : Ct} {F F' H H' : Hp} {σ : L2.St} {sd sd' : DSt} {X : Cx}
theorem td_var {i : Nat} : ∀ σ H Q, tD K C (mVar i) σ H Q → tVar i σ H Q := by
  rintro σ H Q ⟨F, sd, Qd, R, h, k⟩
  unfold mVar at h
  have hs := R.slot i
  cases e : sget sd i with
  | no => rw [e] at h; exact h.elim
  | va d =>
    rw [e] at h hs
    obtain ⟨v, e1, r⟩ := hs
    exact ⟨v, gv_some.mp e1, k v H F d sd R .refl r h⟩
  | own ds =>
    rw [e] at h
    obtain ⟨v, F', e1, R', S, r⟩ := R.freeze e
    exact ⟨v, gv_some.mp e1, k v H F' _ _ R' S r h⟩
  | well n => rw [e] at h; exact h.elim
  | scr n => rw [e] at h; exact h.elim
  | exc n => rw [e] at h; exact h.elim
theorem pd_var {i : Nat} {x : Str} {pos : Pos} (hN : X.N[i]? = some x) (hv : Vis X.env.scope x) (hd : (x == ("__debug__" : Str)) = false := by decide) (hcd : (x == ("__classdict__" : Str)) = false := by decide) :
    PE X (.Name x pos) (tD X.K C (mVar i)) := pe_imp (pe_var hN hv hd hcd) td_var
theorem td_c {v : V} {d : PyData} (r : ∀ F, Rp K F v d) : ∀ σ H Q, tD K C (mC d) σ H Q → tC v σ H Q := by
  rintro σ H Q ⟨F, sd, Qd, R, h, k⟩
  exact k v H F d sd R .refl (r F) h
theorem pd_int {i : Int} {j} {pos : Pos} : PE X (.Constant (.int i) j pos) (tD X.K C (mC (.int i))) := pe_imp pe_int (td_c fun _ => .int i)
theorem pd_bl {b : Bool} {j} {pos : Pos} : PE X (.Constant (.bool b) j pos) (tD X.K C (mC (.bool b))) := pe_imp pe_bl (td_c fun _ => .bl b)
theorem pd_non {j} {pos : Pos} : PE X (.Constant .none j pos) (tD X.K C (mC .none)) := pe_imp pe_non (td_c fun _ => .non)
theorem pd_str {x : Str} {j} {pos : Pos} : PE X (.Constant (.str x) j pos) (tD X.K C (mC (.str x))) := pe_imp pe_str (td_c fun _ => .str x)
/-- a module's constant -/
theorem pd_glob {x : Str} {v : V} {u : Value} {d : PyData} {pos : Pos} (hm : X.mg x = some u) (r : RelV v u) (q : ∀ F, Rp X.K F v d) (hg : Gl X x := by rfl) (hd : (x == ("__debug__" : Str)) = false := by decide) :
    PE X (.Name x pos) (tD X.K C (mC d)) := pe_imp (pe_glob hg hm r hd) (td_c q)
/-- what r asks of two values, told by f on data -/
def RL2 (K : PySem.W.Frag) (r : R2) (f : PyData → PyData → Option PyData) : Prop :=
  ∀ (F H : Hp) (x y : V) (a b z : PyData) (Q : VK), Same F H → (∀ p, H p = none → F p = none) → Rp K F x a → Rp K F y b → f a b = some z → (∀ v F' H', Al F H F' H' → Rp K F' v z → Q v H') → r x y H Q
theorem td_op2 {r : R2} {f : PyData → PyData → Option PyData} {ma mb : ME} (L : RL2 K r f) : ∀ σ H Q, tD K C (mOp2 f ma mb) σ H Q → tOp r (tD K C ma) (tD K C mb) σ H Q := by
  rintro σ H Q ⟨F, sd, Qd, R, h, k⟩
  refine ⟨F, sd, _, R, h, fun x H1 F1 a sd1 R1 S1 rx h1 => ⟨F1, sd1, _, R1, h1, fun y H2 F2 b sd2 R2 S2 ry h2 => ?_⟩⟩
  obtain ⟨z, e, q⟩ := h2
  exact L F2 H2 x y a b z Q R2.ext (fun p => R2.free) (rx.mono S2.fr) ry e fun v F' H' al rz => k v H' F' z sd2 (R2.al al) ((S1.trans S2).trans (.al R2 al)) rz q
theorem pd_op {op} {r : R2} {f : PyData → PyData → Option PyData} {ma mb : ME} {a b : Expr} {pos : Pos} (ho : OpR X (binaryOp op) r) (L : RL2 X.K r f) (ha : PE X a (tD X.K C ma)) (hb : PE X b (tD X.K C mb)) :
    PE X (.BinOp a op b pos) (tD X.K C (mOp2 f ma mb)) := pe_imp (pe_op ho ha hb) (td_op2 L)
theorem pd_cmp {op} {r : R2} {f : PyData → PyData → Option PyData} {ma mb : ME} {a b : Expr} {pos : Pos} (ho : OpR X (compareOp op) r) (L : RL2 X.K r f) (ha : PE X a (tD X.K C ma)) (hb : PE X b (tD X.K C mb)) (hm : behindInMarks op b = false) :
    PE X (.Compare a [op] [b] pos) (tD X.K C (mOp2 f ma mb)) := pe_imp (pe_cmpR ho ha hb hm) (td_op2 L)
theorem td_test {te : TE} {m : ME} (h : ∀ σ H Q, tD K C m σ H Q → te σ H Q) : ∀ σ H Q, tDT K C (mT m) σ H Q → tTest te σ H Q := by
  rintro σ H Q ⟨F, sd, Qd, R, h1, k⟩
  refine h σ H _ ⟨F, sd, _, R, h1, fun v H' F' d sd' R' S r q => ?_⟩
  obtain ⟨c, rfl, q⟩ := q
  cases r
  exact ⟨c, rfl, k c H' F' sd' R' S q⟩
theorem td_tB {te : TE} {m : ME} (h : ∀ σ H Q, tD K C m σ H Q → te σ H Q) : ∀ σ H Q, tDT K C (mT m) σ H Q → tB te σ H Q := by
  rintro σ H Q ⟨F, sd, Qd, R, h1, k⟩
  refine h σ H _ ⟨F, sd, _, R, h1, fun v H' F' d sd' R' S r q => ?_⟩
  obtain ⟨c, rfl, q⟩ := q
  cases r
  exact ⟨c, rfl, k c H' F' sd' R' S q⟩
theorem pdt_cmp {op} {r : R2} {f : PyData → PyData → Option PyData} {ma mb : ME} {a b : Expr} {pos : Pos} (ho : OpR X (compareOp op) r) (L : RL2 X.K r f) (ha : PE X a (tD X.K C ma)) (hb : PE X b (tD X.K C mb)) (hm : behindInMarks op b = false) :
    PT X (.Compare a [op] [b] pos) (tDT X.K C (mT (mOp2 f ma mb))) := pt_imp (pt_cmpR ho ha hb hm) (td_test (td_op2 L))
theorem pdt_val {e : Expr} {m : ME} (h : PE X e (tD X.K C m)) (he : ∀ whole, isTrue e X.env whole = (do let v ← whole; standAt e.pos; holding [v] (truthy v)) := by intro _; rfl) : PT X e (tDT X.K C (mT m)) :=
  pt_imp (pt_val h he) (td_tB fun _ _ _ q => q)
theorem pdt_not {e : Expr} {t : MT} {pos : Pos} (h : PT X e (tDT X.K C t)) : PT X (.UnaryOp .Not e pos) (tDT X.K C (mTNot t)) := pt_imp (pt_not h) (by
  rintro σ H Q ⟨F, sd, Qd, R, h1, k⟩
  exact ⟨F, sd, _, R, h1, fun b H' F' sd' R' S q => k (!b) H' F' sd' R' S q⟩)
theorem pdw_and1 {a : Expr} {t : MT} {pos : Pos} (h : PT X a (tDT X.K C t)) : PW X (.BoolOp .And [a] pos) (tDT X.K C t) := pw_and1 h
theorem pdw_or1 {a : Expr} {t : MT} {pos : Pos} (h : PT X a (tDT X.K C t)) : PW X (.BoolOp .Or [a] pos) (tDT X.K C t) := pw_or1 h
theorem pdw_and {a b : Expr} {rest : List Expr} {t u : MT} {pos : Pos} (ha : PT X a (tDT X.K C t)) (hb : PW X (.BoolOp .And (b :: rest) pos) (tDT X.K C u)) : PW X (.BoolOp .And (a :: b :: rest) pos) (tDT X.K C (mTAnd t u)) := pw_imp (pw_and ha hb) (by
  rintro σ H Q ⟨F, sd, Qd, R, h1, k⟩
  refine ⟨F, sd, _, R, h1, fun b H' F' sd' R' S q => ?_⟩
  cases b with
  | true => exact ⟨F', sd', Qd, R', q, fun b2 H2 F2 sd2 R2 S2 q2 => k b2 H2 F2 sd2 R2 (S.trans S2) q2⟩
  | false => exact k false H' F' sd' R' S q)
theorem pdw_or {a b : Expr} {rest : List Expr} {t u : MT} {pos : Pos} (ha : PT X a (tDT X.K C t)) (hb : PW X (.BoolOp .Or (b :: rest) pos) (tDT X.K C u)) : PW X (.BoolOp .Or (a :: b :: rest) pos) (tDT X.K C (mTOr t u)) := pw_imp (pw_or ha hb) (by
  rintro σ H Q ⟨F, sd, Qd, R, h1, k⟩
  refine ⟨F, sd, _, R, h1, fun b H' F' sd' R' S q => ?_⟩
  cases b with
  | true => exact k true H' F' sd' R' S q
  | false => exact ⟨F', sd', Qd, R', q, fun b2 H2 F2 sd2 R2 S2 q2 => k b2 H2 F2 sd2 R2 (S.trans S2) q2⟩)
theorem pd_and {a b : Expr} {rest : List Expr} {ma mb : ME} {pos : Pos} (ha : PE X a (tD X.K C ma)) (hb : PE X (.BoolOp .And (b :: rest) pos) (tD X.K C mb)) : PE X (.BoolOp .And (a :: b :: rest) pos) (tD X.K C (mAnd ma mb)) := pe_imp (pe_and ha hb) (by
  rintro σ H Q ⟨F, sd, Qd, R, h1, k⟩
  refine ⟨F, sd, _, R, h1, fun v H' F' d sd' R' S r q => ?_⟩
  obtain ⟨c, rfl, q⟩ := q
  cases r
  refine ⟨c, rfl, ?_⟩
  cases c with
  | true => exact ⟨F', sd', Qd, R', q, fun b2 H2 F2 d2 sd2 R2 S2 r2 q2 => k b2 H2 F2 d2 sd2 R2 (S.trans S2) r2 q2⟩
  | false => exact k (.bl false) H' F' _ sd' R' S (.bl false) q)
theorem pd_or {a b : Expr} {rest : List Expr} {ma mb : ME} {pos : Pos} (ha : PE X a (tD X.K C ma)) (hb : PE X (.BoolOp .Or (b :: rest) pos) (tD X.K C mb)) : PE X (.BoolOp .Or (a :: b :: rest) pos) (tD X.K C (mOr ma mb)) := pe_imp (pe_or ha hb) (by
  rintro σ H Q ⟨F, sd, Qd, R, h1, k⟩
  refine ⟨F, sd, _, R, h1, fun v H' F' d sd' R' S r q => ?_⟩
  obtain ⟨c, rfl, q⟩ := q
  cases r
  refine ⟨c, rfl, ?_⟩
  cases c with
  | true => exact k (.bl true) H' F' _ sd' R' S (.bl true) q
  | false => exact ⟨F', sd', Qd, R', q, fun b2 H2 F2 d2 sd2 R2 S2 r2 q2 => k b2 H2 F2 d2 sd2 R2 (S.trans S2) r2 q2⟩)
theorem pd_not {a : Expr} {ma : ME} {pos : Pos} (ha : PE X a (tD X.K C ma)) : PE X (.UnaryOp .Not a pos) (tD X.K C (mNot ma)) := pe_imp (pe_not ha) (by
  rintro σ H Q ⟨F, sd, Qd, R, h1, k⟩
  refine ⟨F, sd, _, R, h1, fun v H' F' d sd' R' S r q => ?_⟩
  obtain ⟨c, rfl, q⟩ := q
  cases r
  exact ⟨c, rfl, k (.bl (!c)) H' F' _ sd' R' S (.bl _) q⟩)
theorem pd_one {op} {a : Expr} {m : ME} {pos : Pos} (h : PE X a (tD X.K C m)) : PE X (.BoolOp op [a] pos) (tD X.K C m) := pe_one h
theorem pd_ifE {c a b : Expr} {t : MT} {ma mb : ME} {pos : Pos} (hc : PT X c (tDT X.K C t)) (ha : PE X a (tD X.K C ma)) (hb : PE X b (tD X.K C mb)) : PE X (.IfExp c a b pos) (tD X.K C (mIfE t ma mb)) := pe_imp (pe_ifExp hc ha hb) (by
  rintro σ H Q ⟨F, sd, Qd, R, h1, k⟩
  refine ⟨F, sd, _, R, h1, fun b H' F' sd' R' S q => ?_⟩
  cases b with
  | true => exact ⟨F', sd', Qd, R', q, fun b2 H2 F2 d2 sd2 R2 S2 r2 q2 => k b2 H2 F2 d2 sd2 R2 (S.trans S2) r2 q2⟩
  | false => exact ⟨F', sd', Qd, R', q, fun b2 H2 F2 d2 sd2 R2 S2 r2 q2 => k b2 H2 F2 d2 sd2 R2 (S.trans S2) r2 q2⟩)
theorem pd_chain {op op'} {r r' : R2} {f g : PyData → PyData → Option PyData} {a b c : Expr} {ma mb mc : ME} {pos : Pos} (ho : OpR X (compareOp op) r) (ho' : OpR X (compareOp op') r') (L : RL2 X.K r f) (L' : RL2 X.K r' g)
    (ha : PE X a (tD X.K C ma)) (hb : PE X b (tD X.K C mb)) (hc : PE X c (tD X.K C mc)) (hu : ∀ {a b : PyData} {z : PyData}, f a b = some z → ∃ k, z = .bool k) (t : PE X (.Compare a [op, op'] [b, c] pos) (tChain r r' (tD X.K C ma) (tD X.K C mb) (tD X.K C mc))) :
    PE X (.Compare a [op, op'] [b, c] pos) (tD X.K C (mChain f g ma mb mc)) := pe_imp t (by
  rintro σ H Q ⟨F, sd, Qd, R, h, k⟩
  refine ⟨F, sd, _, R, h, fun x H1 F1 a sd1 R1 S1 rx h1 => ⟨F1, sd1, _, R1, h1, fun y H2 F2 b sd2 R2 S2 ry h2 => ?_⟩⟩
  obtain ⟨cc, e, q⟩ := h2
  refine L F2 H2 x y a b (.bool cc) _ R2.ext (fun p => R2.free) (rx.mono S2.fr) ry e fun v F' H' al rz => ?_
  cases rz
  refine ⟨cc, rfl, ?_⟩
  have S' := (S1.trans S2).trans (.al R2 al)
  cases cc with
  | true =>
    refine ⟨F', sd2, _, R2.al al, q, fun w H3 F3 d sd3 R3 S3 rw_ h3 => ?_⟩
    obtain ⟨z2, e2, q2⟩ := h3
    refine L' F3 H3 y w b d z2 _ R3.ext (fun p => R3.free) (ry.mono ((Stp.al R2 al).fr.trans S3.fr)) rw_ e2 fun v F4 H4 al2 rz2 => k v H4 F4 z2 sd3 (R3.al al2) ((S'.trans S3).trans (.al R3 al2)) rz2 q2
  | false => exact k (.bl false) H' F' _ sd2 (R2.al al) S' (.bl false) q)
/-- one place -/
def RL1 (K : PySem.W.Frag) (r : V → Hp → VK → Prop) (f : PyData → Option PyData) : Prop :=
  ∀ (F H : Hp) (x : V) (a z : PyData) (Q : VK), Same F H → (∀ p, H p = none → F p = none) → Rp K F x a → f a = some z → (∀ v F' H', Al F H F' H' → Rp K F' v z → Q v H') → r x H Q
theorem pd_un {op} {r : V → Hp → VK → Prop} {f : PyData → Option PyData} {ma : ME} {a : Expr} {pos : Pos} (ho : UnR X (unaryOp op) r) (L : RL1 X.K r f) (ha : PE X a (tD X.K C ma)) : PE X (.UnaryOp op a pos) (tD X.K C (mOp1 f ma)) := pe_imp (pe_un ho ha) (by
  rintro σ H Q ⟨F, sd, Qd, R, h, k⟩
  refine ⟨F, sd, _, R, h, fun x H1 F1 a sd1 R1 S1 rx h1 => ?_⟩
  obtain ⟨z, e, q⟩ := h1
  exact L F1 H1 x a z Q R1.ext (fun p => R1.free) rx e fun v F' H' al rz => k v H' F' z sd1 (R1.al al) (S1.trans (.al R1 al)) rz q)
theorem pd_ix {a b : Expr} {r : R2} {f : PyData → PyData → Option PyData} {ma mb : ME} {pos : Pos} (hr : IxR X r) (L : RL2 X.K r f) (ha : PE X a (tD X.K C ma)) (hb : PE X b (tD X.K C mb)) (hs : PlainIx b := by exact fun _ _ => rfl) :
    PE X (.Subscript a b pos) (tD X.K C (mOp2 f ma mb)) := pe_imp (pe_ix hr ha hb hs) (td_op2 L)
theorem pda_nil : PA X [] (tDA X.K C mNil) := pa_imp pa_nil (by
  rintro σ H Q ⟨F, sd, Qd, R, h, k⟩
  exact k [] H F [] sd R .refl .nil h)
theorem td_cons {me : ME} {ma : MA} : ∀ σ H Q, tDA K C (mCons me ma) σ H Q → tCons (tD K C me) (tDA K C ma) σ H Q := by
  rintro σ H Q ⟨F, sd, Qd, R, h, k⟩
  exact ⟨F, sd, _, R, h, fun x H1 F1 a sd1 R1 S1 rx h1 => ⟨F1, sd1, _, R1, h1, fun ys H2 F2 ds sd2 R2 S2 ry h2 => k (x :: ys) H2 F2 (a :: ds) sd2 R2 (S1.trans S2) (.cons (rx.mono S2.fr) ry) h2⟩⟩
theorem pda_cons {e : Expr} {es : List Expr} {me : ME} {ma : MA} (he : PE X e (tD X.K C me)) (hr : PA X es (tDA X.K C ma)) (hs : starEach (e :: es) X.env = (false, eval e X.env) :: starEach es X.env := by rfl) : PA X (e :: es) (tDA X.K C (mCons me ma)) :=
  pa_imp (pa_cons he hr hs) td_cons
theorem pdk_nil : PK X [] (tDA X.K C mNil) := pk_imp pk_nil (by
  rintro σ H Q ⟨F, sd, Qd, R, h, k⟩
  exact k [] H F [] sd R .refl .nil h)
theorem pdk_cons {nm : Option Str} {e : Expr} {kpos : Pos} {es : List Keyword} {me : ME} {ma : MA} (he : PE X e (tD X.K C me)) (hr : PK X es (tDA X.K C ma)) : PK X (⟨nm, e, kpos⟩ :: es) (tDA X.K C (mCons me ma)) :=
  pk_imp (pk_cons he hr) td_cons
theorem pd_tup {es : List Expr} {x1} {ma : MA} {pos : Pos} (h : PA X es (tDA X.K C ma)) : PE X (.Tuple es x1 pos) (tD X.K C (mTup ma)) := pe_imp (pe_tup h) (by
  rintro σ H Q ⟨F, sd, Qd, R, h, k⟩
  refine ⟨F, sd, _, R, h, fun vs H1 F1 ds sd1 R1 S1 rs q => ⟨?_, fun p hp => ?_⟩⟩
  · rw [rs.length]; exact Nat.le_trans q.1 (by decide)
  · exact k (.ref p) _ (upd F1 p (.tup vs)) _ sd1 (R1.al (.new hp)) (S1.trans (.al R1 (.new hp))) (.tup (.inl (.inl upd_same)) (rs.mono (same_new (R1.free hp)))) q.2)
theorem td_lst {ma : MA} : ∀ σ H Q, tDR K C (mrLst ma) σ H Q → tLst (tDA K C ma) σ H Q := by
  rintro σ H Q ⟨F, sd, Qd, R, h, k⟩
  refine ⟨F, sd, _, R, h, fun vs H1 F1 ds sd1 R1 S1 rs q => ⟨?_, fun p hp => ?_⟩⟩
  · rw [rs.length]; exact Nat.le_trans q.1 (by decide)
  · have R2 := R1.allocH (o := .lst vs) hp
    refine k (.ref p) _ F1 (.own ds) sd1 R2 (S1.trans ⟨Same.refl _, fun a o e _ => same_new hp a o e, fun _ z => z, fun _ _ e => .inl e, fun a e => ?_⟩) ⟨p, vs, rfl, upd_same, R1.free hp, R1.still p hp, rs⟩ (fun _ q' e => ?_) (fun _ q' e => ?_) q.2
    · by_cases z : a = p
      · subst z; exact hp
      · rw [upd_ne z] at e; exact e
    · cases e
      rintro ⟨i, o, e⟩
      have hs := R1.slot i
      cases es : sget sd1 i with
      | no => rw [es] at o; cases o
      | va d => rw [es] at o; cases o
      | scr d => rw [es] at o; cases o
      | exc d => rw [es] at o; cases o
      | own ds' => rw [es] at hs; obtain ⟨q2, vs2, e1, e2, _⟩ := hs; rw [e] at e1; cases e1; rw [hp] at e2; cases e2
      | well n => rw [es] at hs; obtain ⟨q2, _, _, _, e1, e2, _⟩ := hs; rw [e] at e1; cases e1; rw [hp] at e2; cases e2
    · cases e
      have := S1.st p hp
      exact this
theorem td_lstV {ma : MA} : ∀ σ H Q, tD K C (mLst ma) σ H Q → tLst (tDA K C ma) σ H Q := by
  rintro σ H Q ⟨F, sd, Qd, R, h, k⟩
  refine ⟨F, sd, _, R, h, fun vs H1 F1 ds sd1 R1 S1 rs q => ⟨?_, fun p hp => ?_⟩⟩
  · rw [rs.length]; exact Nat.le_trans q.1 (by decide)
  · exact k (.ref p) _ (upd F1 p (.lst vs)) _ sd1 (R1.al (.new hp)) (S1.trans (.al R1 (.new hp))) (.lst upd_same (rs.mono (same_new (R1.free hp)))) q.2
theorem pd_lst {es : List Expr} {ma : MA} {pos : Pos} (h : PA X es (tDA X.K C ma)) : PE X (.List es pos) (tD X.K C (mLst ma)) := pe_imp (pe_lst h) td_lstV
theorem pdr_lst {es : List Expr} {ma : MA} {pos : Pos} (h : PA X es (tDA X.K C ma)) : PE X (.List es pos) (tDR X.K C (mrLst ma)) := pe_imp (pe_lst h) td_lst
theorem pdr_of {e : Expr} {m : ME} (h : PE X e (tD X.K C m)) : PE X e (tDR X.K C (mrOf m)) := pe_imp h (by
  rintro σ H Q ⟨F, sd, Qd, R, h, k⟩
  exact ⟨F, sd, _, R, h, fun v H' F' d sd' R' S r q => k v H' F' (.va d) sd' R' S ⟨v, rfl, r⟩ (fun z => nomatch z) (fun z => nomatch z) q⟩)
def RLC (K : PySem.W.Frag) (r : List V → Hp → VK → Prop) (f : List PyData → Option PyData) : Prop :=
  ∀ (F H : Hp) (xs : List V) (as : List PyData) (z : PyData) (Q : VK), Same F H → (∀ p, H p = none → F p = none) → RpA K F xs as → f as = some z → (∀ v F' H', Al F H F' H' → Rp K F' v z → Q v H') → r xs H Q
theorem td_cb {r : List V → Hp → VK → Prop} {f : List PyData → Option PyData} {ma : MA} (L : RLC K r f) : ∀ σ H Q, tD K C (mCallB f ma) σ H Q → tCB r (tDA K C ma) σ H Q := by
  rintro σ H Q ⟨F, sd, Qd, R, h, k⟩
  refine ⟨F, sd, _, R, h, fun xs H1 F1 as sd1 R1 S1 rx h1 => ?_⟩
  obtain ⟨z, e, q⟩ := h1
  exact L F1 H1 xs as z Q R1.ext (fun p => R1.free) rx e fun v F' H' al rz => k v H' F' z sd1 (R1.al al) (S1.trans (.al R1 al)) rz q
theorem pd_callB {id : String} {x : Str} {p pos : Pos} {e : Expr} {es : List Expr} {r : List V → Hp → VK → Prop} {f : List PyData → Option PyData} {ma : MA} (hc : CallR X (.builtin id) r) (L : RLC X.K r f) (hm : X.mg x = none) (hv : bootBuiltins x = some (.builtin id))
    (ha : PA X (e :: es) (tDA X.K C ma)) (hg : Gl X x := by rfl) (hn : x ≠ "__name__" := by decide) (hdb : (x == ("__debug__" : Str)) = false := by decide)
    (he : starEach (e :: es) X.env = (false, eval e X.env) :: starEach es X.env := by rfl) (hpl : (backTo pos (starEach es X.env)).any (·.1) = false := by rfl) : PE X (.Call (.Name x p) (e :: es) [] pos) (tD X.K C (mCallB f ma)) :=
  pe_imp (pe_callB hc hg hm hv ha hn hdb he hpl) (td_cb L)
theorem pd_callTy {T : String} {x : Str} {p pos : Pos} {e : Expr} {es : List Expr} {r : List V → Hp → VK → Prop} {f : List PyData → Option PyData} {ma : MA} (hc : CallR X (.type T) r) (L : RLC X.K r f) (hm : X.mg x = none) (hv : bootBuiltins x = some (.type T))
    (ha : PA X (e :: es) (tDA X.K C ma)) (hg : Gl X x := by rfl) (hn : x ≠ "__name__" := by decide) (hdb : (x == ("__debug__" : Str)) = false := by decide)
    (he : starEach (e :: es) X.env = (false, eval e X.env) :: starEach es X.env := by rfl) (hpl : (backTo pos (starEach es X.env)).any (·.1) = false := by rfl) : PE X (.Call (.Name x p) (e :: es) [] pos) (tD X.K C (mCallB f ma)) :=
  pe_imp (pe_callTy hc hg hm hv ha hn hdb he hpl) (td_cb L)
/-- a builtin that is a module's name (math.gcd) -/
theorem pd_slice {e : Expr} {lo hi : Option Expr} {p2 pos : Pos} {r : V → Option Int → Option Int → Hp → VK → Prop} {f : PyData → Option Int → Option Int → Option PyData} {me : ME} {ml mh : DSt → (Option Int → DSt → Prop) → Prop} {tl th : TO}
    (L : ∀ (F H : Hp) (x : V) (a z : PyData) (lo hi : Option Int) (Q : VK), Same F H → (∀ p, H p = none → F p = none) → Rp X.K F x a → f a lo hi = some z → (∀ v F' H', Al F H F' H' → Rp X.K F' v z → Q v H') → r x lo hi H Q)
    (hl : ∀ σ H Q F sd Qd, Rs X.K C F H σ sd → ml sd Qd → (∀ o H' F' sd', Rs X.K C F' H' σ sd' → Stp σ sd F H F' H' sd' → Qd o sd' → Q o H') → tl σ H Q)
    (hh : ∀ σ H Q F sd Qd, Rs X.K C F H σ sd → mh sd Qd → (∀ o H' F' sd', Rs X.K C F' H' σ sd' → Stp σ sd F H F' H' sd' → Qd o sd' → Q o H') → th σ H Q)
    (t : PE X (.Subscript e (.Slice lo hi none p2) pos) (tSl r (tD X.K C me) tl th)) : PE X (.Subscript e (.Slice lo hi none p2) pos) (tD X.K C (mSl f me ml mh)) := pe_imp t (by
  rintro σ H Q ⟨F, sd, Qd, R, h, k⟩
  refine ⟨F, sd, _, R, h, fun x H1 F1 a sd1 R1 S1 rx h1 => ?_⟩
  refine hl σ H1 _ F1 sd1 _ R1 h1 fun l H2 F2 sd2 R2 S2 h2 => ?_
  refine hh σ H2 _ F2 sd2 _ R2 h2 fun u H3 F3 sd3 R3 S3 h3 => ?_
  obtain ⟨z, e, q⟩ := h3
  exact L F3 H3 x a z l u Q R3.ext (fun p => R3.free) (rx.mono (S2.fr.trans S3.fr)) e fun v F' H' al rz => k v H' F' z sd3 (R3.al al) (((S1.trans S2).trans S3).trans (.al R3 al)) rz q)
end
end DL
namespace DL
open PySem PySem.Spec PyProof.Rows L2
theorem opR_or {X : Cx} {f : Value → Value → Sem Value} {r r' : R2} (h : OpR X f r) (h' : OpR X f r') : OpR X f (fun x y H Q => r x y H Q ∨ r' x y H Q) :=
  fun pins s σ H x y v u Q I rx ry q => q.elim (h pins s σ H x y v u Q I rx ry) (h' pins s σ H x y v u Q I rx ry)
theorem callR_or {X : Cx} {f : Value} {r r' : List V → Hp → VK → Prop} (h : CallR X f r) (h' : CallR X f r') : CallR X f (fun xs H Q => r xs H Q ∨ r' xs H Q) :=
  fun pins s σ H xs us Q I rx q => q.elim (h pins s σ H xs us Q I rx) (h' pins s σ H xs us Q I rx)
theorem slR_or {X : Cx} {r r' : V → Option Int → Option Int → Hp → VK → Prop} (h : SlR X r) (h' : SlR X r') : SlR X (fun x lo hi H Q => r x lo hi H Q ∨ r' x lo hi H Q) := SlR.or h h'
theorem line_of {n : Nat} (h : n ≤ 100000) : n ≤ sizeLine := Nat.le_trans h (by decide)
theorem line_lt {n : Nat} (h : n < 100000) : n < sizeLine := Nat.lt_of_lt_of_le h (by decide)
section
variable {K : PySem.W.Frag} {X : Cx}
abbrev rAdd (K : PySem.W.Frag) : R2 := fun x y H Q => (((rI0 fun i j => V.int (i + j)) x y H Q ∨ (∃ i j, x = .str i ∧ y = .str j ∧ i.length + j.length ≤ sizeLine ∧ Q (.str (i ++ j)) H)) ∨ rCat x y H Q) ∨ rCatA K x y H Q
theorem or_add : OpR X (binaryOp .Add) (rAdd X.K) := opR_or (opR_or (opR_or op_add op_add_str) op_cat) op_catA
theorem rl_add : RL2 K (rAdd K) opAdd := by
  intro F H x y a b z Q e _ rx ry h k
  unfold opAdd at h
  split at h
  · cases rx; cases ry; cases h
    exact .inl (.inl (.inl ⟨_, _, rfl, rfl, k _ F H .id (.int _)⟩))
  · cases rx; cases ry
    split at h
    · cases h
      rename_i hl
      exact .inl (.inl (.inr ⟨_, _, rfl, rfl, line_of hl, k _ F H .id (.str _)⟩))
    · cases h
  · split at h
    · rename_i hl
      cases h
      cases rx with
      | lst h1 r1 =>
        cases ry with
        | lst h2 r2 =>
          refine .inl (.inr ⟨_, _, _, _, rfl, rfl, e _ _ h1, e _ _ h2, ?_, fun p hp => ?_⟩)
          · rw [r1.length, r2.length]; exact line_of hl
          · have hF : F p = none := by
              cases q : F p with
              | none => rfl
              | some o => rw [e _ _ q] at hp; cases hp
            exact k _ _ _ (.new hp) (.lst upd_same ((r1.append r2).mono (same_new hF)))
    · cases h
  · split at h
    · rename_i hl
      cases h
      cases rx with
      | tup h1 r1 =>
        cases ry with
        | tup h2 r2 =>
          refine .inr ⟨_, _, _, _, rfl, rfl, same_t e h1, same_t e h2, ?_, fun z => ?_, fun z1 z2 => ?_, fun z1 z2 p hp => ?_⟩
          · rw [r1.length, r2.length]; exact line_of hl
          · subst z
            cases r1
            exact k _ F H .id (.tup h2 r2)
          · subst z2
            cases r2
            rw [List.append_nil] at k
            exact k _ F H .id (.tup h1 r1)
          · have hF : F p = none := by
              cases q : F p with
              | none => rfl
              | some o => rw [e _ _ q] at hp; cases hp
            exact k _ _ _ (.new hp) (.tup (.inl (.inl upd_same)) ((r1.append r2).mono (same_new hF)))
    · cases h
  · cases h
theorem free_of {F H : Hp} {p : Addr} (e : Same F H) (hp : H p = none) : F p = none := by
  cases q : F p with
  | none => rfl
  | some o => rw [e _ _ q] at hp; cases hp
theorem rl_sub : RL2 K (rI0 fun i j => V.int (i - j)) opSub := by
  intro F H x y a b z Q e _ rx ry h k
  unfold opSub at h
  split at h
  · cases rx; cases ry; cases h
    exact ⟨_, _, rfl, rfl, k _ F H .id (.int _)⟩
  · cases h
abbrev rMul : R2 := fun x y H Q => rI CMulW (fun i j => V.int (i * j)) x y H Q ∨ rRep x y H Q
theorem or_mul : OpR X (binaryOp .Mult) rMul := opR_or op_mulW op_rep
theorem rpA_rep {F : Hp} {vs : List V} {ds : List PyData} (r : RpA K F vs ds) : ∀ n : Nat, RpA K F (List.replicate n vs).flatten (List.replicate n ds).flatten
  | 0 => .nil
  | n + 1 => by
    rw [List.replicate_succ, List.replicate_succ, List.flatten_cons, List.flatten_cons]
    exact r.append (rpA_rep r n)
theorem rl_mul : RL2 K rMul opMul := by
  intro F H x y a b z Q e _ rx ry h k
  unfold opMul at h
  split at h
  · cases rx; cases ry
    split at h
    · rename_i hs
      cases h
      exact .inl ⟨_, _, rfl, rfl, (by unfold CMulW; exact of_decide_eq_true hs), k _ F H .id (.int _)⟩
    · cases h
  · rename_i a' k'
    split at h
    · rename_i hs
      cases h
      cases ry
      cases rx with
      | lst h1 r1 =>
        refine .inr ⟨_, _, _, rfl, rfl, e _ _ h1, by omega, by omega, ?_, fun p hp => ?_⟩
        · rw [r1.length]
          have h1 : a'.length * k'.toNat ≤ 1000 * 1000 := Nat.mul_le_mul hs.2.2 (by omega)
          exact Nat.le_trans h1 (by decide)
        · exact k _ _ _ (.new hp) (.lst upd_same ((rpA_rep r1 _).mono (same_new (free_of e hp))))
    · cases h
  · cases h
theorem rl_mod : RL2 K (rI (fun _ j => 0 < j) fun i j => V.int (i % j)) opMod := by
  intro F H x y a b z Q e _ rx ry h k
  unfold opMod at h
  split at h
  · cases rx; cases ry
    split at h
    · rename_i hs
      cases h
      exact ⟨_, _, rfl, rfl, hs, k _ F H .id (.int _)⟩
    · cases h
  · cases h
theorem rl_fdiv : RL2 K (rI CDivW fun i j => V.int (i / j)) opFdiv := by
  intro F H x y a b z Q e _ rx ry h k
  unfold opFdiv at h
  split at h
  · cases rx; cases ry
    split at h
    · rename_i hs
      cases h
      exact ⟨_, _, rfl, rfl, hs, k _ F H .id (.int _)⟩
    · cases h
  · cases h
/-- ** by a small exponent -/
def CPowW (i j : Int) : Prop := 0 ≤ j ∧ j ≤ 100 ∧ i.natAbs < 2 ^ 10000
theorem op_powW : OpR X (binaryOp .Pow) (rI CPowW fun i j => .int (i ^ j.toNat)) := by
  intro pins s σ H x y v u Q I rx ry h
  obtain ⟨i, j, rfl, rfl, hc, q⟩ := h
  obtain ⟨t, rfl⟩ := rx
  obtain ⟨t', rfl⟩ := ry
  refine PyProof.Rows.pow_int hc.1 ?_ ⟨.int _, H, I.tok _, ⟨_, rfl⟩, q⟩
  have hb : Builtin.Int.intBits i ≤ 10000 := by
    unfold Builtin.Int.intBits
    split
    · exact Nat.zero_le _
    · have := PySem.Flt.log2_lt_of (by decide : 0 < 10000) hc.2.2
      omega
  have h1 := hc.1
  have h2 := hc.2.1
  have h3 : (Builtin.Int.intBits i : Int) ≤ 10000 := by exact_mod_cast hb
  have h4 : (Builtin.Int.intBits i : Int) * j ≤ 10000 * 100 := Int.mul_le_mul h3 h2 h1 (by decide)
  have h5 : (10000 * 100 : Int) ≤ 2 ^ 27 := by decide
  omega
theorem rl_pow : RL2 K (rI CPowW fun i j => V.int (i ^ j.toNat)) opPow := by
  intro F H x y a b z Q e _ rx ry h k
  unfold opPow at h
  split at h
  · cases rx; cases ry
    split at h
    · rename_i hs
      cases h
      exact ⟨_, _, rfl, rfl, hs, k _ F H .id (.int _)⟩
    · cases h
  · cases h
theorem rl_cmpI {p : Int → Int → Bool} : RL2 K (rI0 fun i j => V.bl (p i j)) (cmpI p) := by
  intro F H x y a b z Q e _ rx ry h k
  unfold cmpI at h
  split at h
  · cases rx; cases ry; cases h
    exact ⟨_, _, rfl, rfl, k _ F H .id (.bl _)⟩
  · cases h
theorem strs_of {a b : PyData} {p : Str × Str} (h : strs? a b = some p) : a = .str p.1 ∧ b = .str p.2 := by
  unfold strs? at h
  split at h
  · cases h; exact ⟨rfl, rfl⟩
  · cases h
theorem or_eqD (hu : X.A.units + 64 < cLine) : OpR X (compareOp .Eq) (fun x y H Q => rEqD X.K x y H Q ∨ rEq x y H Q) := opR_or (op_eqD hu) op_eq
theorem or_neD (hu : X.A.units + 64 < cLine) : OpR X (compareOp .NotEq) (fun x y H Q => rNeD X.K x y H Q ∨ rNe x y H Q) := opR_or (op_neD hu) op_ne
theorem dec_v {x y : Str} : decide (V.str x = V.str y) = decide (x = y) := by
  by_cases h : x = y <;> simp [h]
theorem rl_eq : RL2 K (fun x y H Q => rEqD K x y H Q ∨ rEq x y H Q) opEq := by
  intro F H x y a b z Q e _ rx ry h k
  unfold opEq at h
  split at h
  · rename_i hs
    cases h
    rw [Bool.and_eq_true] at hs
    exact .inl ⟨a, b, rx.dp e (SeqAt.canLay_of_shaped hs.1), ry.dp e (SeqAt.canLay_of_shaped hs.2), hs.1, hs.2, k _ F H .id (.bl _)⟩
  · obtain ⟨p, hp, h⟩ := Option.map_eq_some_iff.mp h
    obtain ⟨rfl, rfl⟩ := strs_of hp
    cases h
    cases rx; cases ry
    refine .inr ⟨rfl, ?_⟩
    rw [dec_v]
    exact k _ F H .id (.bl _)
theorem rl_ne : RL2 K (fun x y H Q => rNeD K x y H Q ∨ rNe x y H Q) opNe := by
  intro F H x y a b z Q e _ rx ry h k
  unfold opNe at h
  split at h
  · rename_i hs
    cases h
    rw [Bool.and_eq_true] at hs
    exact .inl ⟨a, b, rx.dp e (SeqAt.canLay_of_shaped hs.1), ry.dp e (SeqAt.canLay_of_shaped hs.2), hs.1, hs.2, k _ F H .id (.bl _)⟩
  · obtain ⟨p, hp, h⟩ := Option.map_eq_some_iff.mp h
    obtain ⟨rfl, rfl⟩ := strs_of hp
    cases h
    cases rx; cases ry
    refine .inr ⟨rfl, ?_⟩
    rw [dec_v]
    exact k _ F H .id (.bl _)
theorem isN_of {F : Hp} {x : V} {a : PyData} (r : Rp K F x a) : decide (x = .non) = isN a := by
  cases r <;> rfl
abbrev rIsNone : R2 := fun x y H Q => y = .non ∧ Q (.bl (decide (x = .non))) H
abbrev rNotNone : R2 := fun x y H Q => y = .non ∧ Q (.bl (!decide (x = .non))) H
theorem rl_isN : RL2 K rIsNone opIsN2 := by
  intro F H x y a b z Q e _ rx ry h k
  unfold opIsN2 at h
  split at h
  · cases ry; cases h
    refine ⟨rfl, ?_⟩
    rw [isN_of rx]
    exact k _ F H .id (.bl _)
  · cases h
theorem rl_notN : RL2 K rNotNone opNotN2 := by
  intro F H x y a b z Q e _ rx ry h k
  unfold opNotN2 at h
  split at h
  · cases ry; cases h
    refine ⟨rfl, ?_⟩
    rw [isN_of rx]
    exact k _ F H .id (.bl _)
  · cases h
theorem rl_isB : RL2 K (fun x y H Q => ∃ a b, x = V.bl a ∧ y = V.bl b ∧ Q (.bl (decide (a = b))) H) opIsB := by
  intro F H x y a b z Q e _ rx ry h k
  unfold opIsB at h
  split at h
  · cases rx; cases ry; cases h
    exact ⟨_, _, rfl, rfl, k _ F H .id (.bl _)⟩
  · cases h
theorem rl_notB : RL2 K (fun x y H Q => ∃ a b, x = V.bl a ∧ y = V.bl b ∧ Q (.bl (!decide (a = b))) H) opNotB := by
  intro F H x y a b z Q e _ rx ry h k
  unfold opNotB at h
  split at h
  · cases rx; cases ry; cases h
    exact ⟨_, _, rfl, rfl, k _ F H .id (.bl _)⟩
  · cases h
theorem rl_neg : RL1 K (rU fun i => V.int (-i)) opNeg := by
  intro F H x a z Q e _ rx h k
  unfold opNeg at h
  split at h
  · cases rx; cases h
    exact ⟨_, rfl, k _ F H .id (.int _)⟩
  · cases h
theorem atI_rpA {F : Hp} {vs : List V} {ds : List PyData} {i : Int} {d : PyData} (r : RpA K F vs ds) (h : DL.atI ds i = some d) : ∃ v, L2.atI vs i = some v ∧ Rp K F v d := by
  unfold DL.atI at h
  unfold L2.atI
  rw [r.length]
  show ∃ v, ((DL.ixN ds.length i).bind fun j => vs[j]?) = some v ∧ _
  cases e : DL.ixN ds.length i with
  | none => rw [e] at h; cases h
  | some j => rw [e] at h; exact r.get h
theorem rl_ix : RL2 K (rIx K) opIx := by
  intro F H x y a b z Q e _ rx ry h k
  unfold opIx at h
  split at h
  · cases ry
    cases rx with
    | lst h1 r1 =>
      obtain ⟨v, e1, r⟩ := atI_rpA r1 h
      exact .inl ⟨_, _, _, v, rfl, rfl, .inl (.inl (e _ _ h1)), e1, k v F H .id r⟩
  · cases ry
    cases rx with
    | tup h1 r1 =>
      obtain ⟨v, e1, r⟩ := atI_rpA r1 h
      exact .inr (.inl ⟨_, _, _, v, rfl, rfl, same_t e h1, e1, k v F H .id r⟩)
  · cases ry; cases rx
    split at h
    · rename_i z' i' hl
      cases e1 : DL.atI z'.cps.toList i' with
      | none => rw [e1] at h; cases h
      | some c =>
        rw [e1] at h
        cases h
        exact .inr (.inr ⟨_, _, c, rfl, rfl, line_of hl, e1, k _ F H .id (.str _)⟩)
    · cases h
  · cases h
theorem eqV_rp {F : Hp} {x y : V} {a b : PyData} (rx : Rp K F x a) (ry : Rp K F y b) (ha : flatD a = true) (hb : flatD b = true) : eqV x y = PyData.eqv a b := by
  cases rx <;> first | (cases ha; done) | (cases ry <;> first | (cases hb; done) | (simp only [eqV, PyData.eqv]))
theorem flatV_rp {F : Hp} {x : V} {a : PyData} (rx : Rp K F x a) (ha : flatD a = true) : flatV x = true := by
  cases rx <;> first | rfl | (cases ha; done)
theorem inV_rpA {F : Hp} {x : V} {a : PyData} (rx : Rp K F x a) (ha : flatD a = true) : ∀ {vs : List V} {ds : List PyData}, RpA K F vs ds → ds.all flatD = true → inV x vs = ds.any (fun d => PyData.eqv d a) ∧ vs.all flatV = true
  | _, _, .nil, _ => ⟨rfl, rfl⟩
  | v :: vs, d :: ds, .cons h r, hf => by
    rw [List.all_cons, Bool.and_eq_true] at hf
    obtain ⟨i1, i2⟩ := inV_rpA rx ha r hf.2
    refine ⟨?_, ?_⟩
    · show (eqV v x || inV x vs) = _
      rw [List.any_cons, eqV_rp h rx hf.1 ha, i1]
    · rw [List.all_cons, flatV_rp h hf.1, i2]; rfl
theorem rl_inG {neg : Bool} : RL2 K (rIn K neg) (opInS neg) := by
  intro F H x y a b z Q e _ rx ry h k
  unfold opInS at h
  cases hb : items b with
  | none => rw [hb] at h; cases h
  | some ds =>
    rw [hb] at h
    simp only [Option.bind_some] at h
    split at h
    · rename_i hs
      cases h
      rw [Bool.and_eq_true] at hs
      cases ry with
      | lst h1 r1 =>
        cases hb
        obtain ⟨i1, i2⟩ := inV_rpA rx hs.1 r1 hs.2
        refine ⟨_, _, rfl, .inl (.inl (.inl (e _ _ h1))), flatV_rp rx hs.1, i2, ?_⟩
        rw [i1]
        cases neg <;> exact k _ F H .id (.bl _)
      | tup h1 r1 =>
        cases hb
        obtain ⟨i1, i2⟩ := inV_rpA rx hs.1 r1 hs.2
        refine ⟨_, _, rfl, .inr (same_t e h1), flatV_rp rx hs.1, i2, ?_⟩
        rw [i1]
        cases neg <;> exact k _ F H .id (.bl _)
      | _ => cases hb
    · cases h
abbrev rInX (K : PySem.W.Frag) : R2 := fun x y H Q => rIn K false x y H Q ∨ (∃ (c : Nat) (z : Str), x = .str ⟨#[c]⟩ ∧ y = .str z ∧ Q (.bl (decide (c ∈ z.cps.toList))) H)
abbrev rNotInX (K : PySem.W.Frag) : R2 := fun x y H Q => rIn K true x y H Q ∨ (∃ (c : Nat) (z : Str), x = .str ⟨#[c]⟩ ∧ y = .str z ∧ Q (.bl (!decide (c ∈ z.cps.toList))) H)
theorem or_in : OpR X (compareOp .In) (rInX X.K) := opR_or op_in_seq op_in_sign
theorem or_notIn : OpR X (compareOp .NotIn) (rNotInX X.K) := opR_or op_notIn_seq op_notIn_sign
theorem rl_in : RL2 K (rInX K) opIn := by
  intro F H x y a b z Q e f rx ry h k
  unfold opIn at h
  split at h
  · cases rx; cases ry
    rename_i w1 w2
    cases hc : sign? w1 with
    | none => rw [hc] at h; cases h
    | some c =>
      rw [hc] at h
      cases h
      exact .inr ⟨c, w2, by rw [sign_of hc], rfl, k _ F H .id (.bl _)⟩
  · exact .inl (rl_inG F H x y a b z Q e f rx ry h k)
theorem rl_notIn : RL2 K (rNotInX K) opNotIn := by
  intro F H x y a b z Q e f rx ry h k
  unfold opNotIn at h
  split at h
  · cases rx; cases ry
    rename_i w1 w2
    cases hc : sign? w1 with
    | none => rw [hc] at h; cases h
    | some c =>
      rw [hc] at h
      cases h
      exact .inr ⟨c, w2, by rw [sign_of hc], rfl, k _ F H .id (.bl _)⟩
  · exact .inl (rl_inG F H x y a b z Q e f rx ry h k)
end
end DL
namespace DL
open PySem PySem.Spec PyProof.Rows L2
section
variable {K : PySem.W.Frag} {X : Cx} {C : Ct}
theorem rpA1 {F : Hp} {xs : List V} {d : PyData} (r : RpA K F xs [d]) : ∃ x, xs = [x] ∧ Rp K F x d := by
  cases r with
  | cons h t => cases t; exact ⟨_, rfl, h⟩
theorem rpA2 {F : Hp} {xs : List V} {d e : PyData} (r : RpA K F xs [d, e]) : ∃ x y, xs = [x, y] ∧ Rp K F x d ∧ Rp K F y e := by
  cases r with
  | cons h t => obtain ⟨y, rfl, g⟩ := rpA1 t; exact ⟨_, y, rfl, h, g⟩
abbrev rLenX (K : PySem.W.Frag) : List V → Hp → VK → Prop := fun xs H Q => (∃ p ys, xs = [V.ref p] ∧ (SqL K H p ys ∨ SqT K H p ys) ∧ Q (.int ys.length) H) ∨ (∃ z, xs = [V.str z] ∧ z.length ≤ sizeLine ∧ Q (.int z.length) H)
theorem cr_len : CallR X (.builtin "len") (rLenX X.K) := callR_or call_len_seq call_len_str
theorem rc_len : RLC K (rLenX K) bLen := by
  intro F H xs as z Q e _ rx h k
  unfold bLen at h
  split at h
  · obtain ⟨x, rfl, r⟩ := rpA1 rx
    cases h
    cases r with
    | lst h1 r1 =>
      refine .inl ⟨_, _, rfl, .inl (.inl (.inl (e _ _ h1))), ?_⟩
      rw [r1.length]
      exact k _ F H .id (.int _)
  · obtain ⟨x, rfl, r⟩ := rpA1 rx
    cases h
    cases r with
    | tup h1 r1 =>
      refine .inl ⟨_, _, rfl, .inr (same_t e h1), ?_⟩
      rw [r1.length]
      exact k _ F H .id (.int _)
  · obtain ⟨x, rfl, r⟩ := rpA1 rx
    cases r
    split at h
    · rename_i hl
      cases h
      exact .inr ⟨_, rfl, line_of hl, k _ F H .id (.int _)⟩
    · cases h
  · cases h
theorem rc_abs : RLC K (fun xs H Q => ∃ i, xs = [V.int i] ∧ Q (.int (if i < 0 then -i else i)) H) bAbs := by
  intro F H xs as z Q e _ rx h k
  unfold bAbs at h
  split at h
  · obtain ⟨x, rfl, r⟩ := rpA1 rx
    cases h
    cases r
    exact ⟨_, rfl, k _ F H .id (.int _)⟩
  · cases h
theorem rc_max : RLC K (fun xs H Q => ∃ i j, xs = [V.int i, V.int j] ∧ Q (.int (if j > i then j else i)) H) bMax := by
  intro F H xs as z Q e _ rx h k
  unfold bMax at h
  split at h
  · obtain ⟨x, y, rfl, r1, r2⟩ := rpA2 rx
    cases h
    cases r1; cases r2
    exact ⟨_, _, rfl, k _ F H .id (.int _)⟩
  · cases h
theorem rc_min : RLC K (fun xs H Q => ∃ i j, xs = [V.int i, V.int j] ∧ Q (.int (if j < i then j else i)) H) bMin := by
  intro F H xs as z Q e _ rx h k
  unfold bMin at h
  split at h
  · obtain ⟨x, y, rfl, r1, r2⟩ := rpA2 rx
    cases h
    cases r1; cases r2
    exact ⟨_, _, rfl, k _ F H .id (.int _)⟩
  · cases h
theorem cr_int : CallR X (.type "int") (fun xs H Q => ∃ i, xs = [V.int i] ∧ Q (.int i) H) := by
  intro pins s σ H xs us Q I r h
  obtain ⟨i, rfl, q⟩ := h
  obtain ⟨u, rfl, t, rfl⟩ := vals1 r
  exact call_int_int ⟨.int i, H, I, ⟨_, rfl⟩, q⟩
theorem rc_int : RLC K (fun xs H Q => ∃ i, xs = [V.int i] ∧ Q (.int i) H) bInt := by
  intro F H xs as z Q e _ rx h k
  unfold bInt at h
  split at h
  · obtain ⟨x, rfl, r⟩ := rpA1 rx
    cases h
    cases r
    exact ⟨_, rfl, k _ F H .id (.int _)⟩
  · cases h
theorem rc_gcd : RLC K rGcd bGcd := by
  intro F H xs as z Q e _ rx h k
  unfold bGcd at h
  split at h
  · obtain ⟨x, y, rfl, r1, r2⟩ := rpA2 rx
    cases h
    cases r1; cases r2
    exact ⟨_, _, rfl, k _ F H .id (.int _)⟩
  · cases h
theorem bools_rp {F : Hp} : ∀ {ds : List PyData} {vs : List V} {bs : List Bool}, RpA K F vs ds → bools ds = some bs → vs = bs.map V.bl
  | [], _, _, .nil, h => by cases h; rfl
  | .bool b :: r, _, _, .cons h1 h2, h => by
    unfold bools at h
    cases e : bools r with
    | none => rw [e] at h; cases h
    | some bs' =>
      rw [e] at h
      cases h
      cases h1
      rw [bools_rp h2 e]; rfl
  | .none :: _, _, _, _, h => by cases h
  | .int _ :: _, _, _, _, h => by cases h
  | .str _ :: _, _, _, _, h => by cases h
  | .list _ :: _, _, _, _, h => by cases h
  | .tuple _ :: _, _, _, _, h => by cases h
  | .dict _ :: _, _, _, _, h => by cases h
theorem rc_all : RLC K (rAll K) bAll := by
  intro F H xs as z Q e _ rx h k
  unfold bAll at h
  split at h
  · obtain ⟨x, rfl, r⟩ := rpA1 rx
    rename_i ds
    cases eb : bools ds with
    | none => rw [eb] at h; cases h
    | some bs =>
      rw [eb] at h
      cases h
      cases r with
      | lst h1 r1 =>
        have := bools_rp r1 eb
        subst this
        exact ⟨_, bs, rfl, .inl (.inl (e _ _ h1)), k _ F H .id (.bl _)⟩
  · cases h
theorem rc_any : RLC K (rAny K) bAny := by
  intro F H xs as z Q e _ rx h k
  unfold bAny at h
  split at h
  · obtain ⟨x, rfl, r⟩ := rpA1 rx
    rename_i ds
    cases eb : bools ds with
    | none => rw [eb] at h; cases h
    | some bs =>
      rw [eb] at h
      cases h
      cases r with
      | lst h1 r1 =>
        have := bools_rp r1 eb
        subst this
        exact ⟨_, bs, rfl, .inl (.inl (e _ _ h1)), k _ F H .id (.bl _)⟩
  · cases h
theorem rc_list : RLC K (fun xs H Q => ∃ p ys, xs = [V.ref p] ∧ (SqL K H p ys ∨ SqT K H p ys) ∧ ∀ l, H l = none → Q (.ref l) (upd H l (.lst ys))) bList := by
  intro F H xs as z Q e f rx h k
  unfold bList at h
  split at h
  · obtain ⟨x, rfl, r⟩ := rpA1 rx
    cases h
    cases r with
    | lst h1 r1 => exact ⟨_, _, rfl, .inl (.inl (.inl (e _ _ h1))), fun l hl => k _ _ _ (.new hl) (.lst upd_same (r1.mono (same_new (f l hl))))⟩
  · obtain ⟨x, rfl, r⟩ := rpA1 rx
    cases h
    cases r with
    | tup h1 r1 => exact ⟨_, _, rfl, .inr (same_t e h1), fun l hl => k _ _ _ (.new hl) (.lst upd_same (r1.mono (same_new (f l hl))))⟩
  · cases h
theorem pd_gcd {x : Str} {p pos : Pos} {e : Expr} {es : List Expr} {ma : MA} (hm : X.mg x = some (.builtin "math.gcd")) (ha : PA X (e :: es) (tDA X.K C ma)) (hg : Gl X x := by rfl) (hdb : (x == ("__debug__" : Str)) = false := by decide)
    (he : starEach (e :: es) X.env = (false, eval e X.env) :: starEach es X.env := by rfl) (hpl : (backTo pos (starEach es X.env)).any (·.1) = false := by rfl) : PE X (.Call (.Name x p) (e :: es) [] pos) (tD X.K C (mCallB bGcd ma)) :=
  pe_imp (pe_callBfun cr_gcd hg hm ha hdb he hpl) (td_cb rc_gcd)
def kName : Ki → String
  | .kInt => "int" | .kBool => "bool" | .kStr => "str" | .kTup => "tuple" | .kLst => "list" | .kDict => "dict"
theorem kMeta (k : Ki) : bootBuiltins (Str.ofString (kName k)) = some (.type (kName k)) := by cases k <;> decide +kernel
def tyD : PyData → String
  | .none => "NoneType" | .bool _ => "bool" | .int _ => "int" | .str _ => "str" | .list _ => "list" | .tuple _ => "tuple" | .dict _ => "dict"
theorem ty_rp {F H : Hp} {x : V} {d : PyData} (e : Same F H) (r : Rp K F x d) : TyX K H x (.type (tyD d)) := by
  cases r with
  | non => exact .base .non
  | bl b => exact .base (.bl b)
  | int i => exact .base (.int i)
  | str z => exact .base (.str z)
  | lst h _ => exact .base (.lst (e _ _ h))
  | tup h _ =>
    rcases h with (h | ⟨o, h⟩) | ⟨o, its, n, h, c, _⟩
    · exact .base (.tup (e _ _ h))
    · exact .fTuple (e _ _ h)
    · exact .kTuple h c
  | dct h _ => exact .base (.dK (e _ _ h))
theorem kit_d (k : Ki) (d : PyData) : PySem.W.kitOne K (.type (tyD d)) (.type (kName k)) = some (isK k d) := by
  cases d <;> cases k <;> first | exact kit_ty (r := true) (by simp only [tyD, kName]; decide +kernel) | exact kit_ty (r := false) (by simp only [tyD, kName]; decide +kernel)
theorem kitAny_d (d : PyData) : ∀ ks : List Ki, PySem.W.kitAny K (.type (tyD d)) (ks.map fun k => .type (kName k)) = some (ks.any fun k => isK k d)
  | [] => kitAny_nil
  | k :: ks => by
    refine kitAny_cons (kit_d k d) (fun h => ?_) (fun h => ?_)
    · rw [List.any_cons, h, Bool.false_or]; exact kitAny_d d ks
    · rw [List.any_cons, h, Bool.true_or]
theorem pd_isi1 {p p2 pos : Pos} {e : Expr} {m : ME} {T : Str} (k : Ki) (hm : X.mg "isinstance" = none) (hT : X.mg T = none) (he : PE X e (tD X.K C m)) (hv : bootBuiltins T = some (.type (kName k)) := by decide +kernel)
    (hgI : Gl X "isinstance" := by rfl) (hgT : Gl X T := by rfl) (hn : T ≠ "__name__" := by decide) (hdb : (T == ("__debug__" : Str)) = false := by decide) (hpl : (backTo pos (starEach [.Name T p2] X.env)).any (·.1) = false := by rfl)
    (hs : starEach (e :: [.Name T p2]) X.env = (false, eval e X.env) :: starEach [.Name T p2] X.env := by rfl) :
    PE X (.Call (.Name "isinstance" p) [e, .Name T p2] [] pos) (tD X.K C (mOp1 (bIsi [k]) m)) :=
  pe_imp (pe_callB call_isi hgI hm (by decide +kernel) (pa_cons he (pa_cons (pe_bltn (v := .ty (kName k)) hgT hT hv rfl hn hdb) pa_nil) hs) (by decide) (by decide) hs hpl) (by
    rintro σ H Q ⟨F, sd, Qd, R, h, kk⟩
    refine ⟨F, sd, _, R, h, fun x H1 F1 a sd1 R1 S1 rx h1 => ?_⟩
    obtain ⟨z, ez, q⟩ := h1
    cases ez
    have h2 := kitAny_d (K := X.K) a [k]
    refine ⟨x, .ty (kName k), .type (tyD a), .type (kName k), [k].any fun k => isK k a, rfl, .ty _, ty_rp R1.ext rx, ?_, kk (.bl _) H1 F1 _ sd1 R1 S1 (.bl _) q⟩
    rw [kit_d]
    show some (isK k a) = some (isK k a || false)
    rw [Bool.or_false])
theorem vals_ki : ∀ ks : List Ki, Paired ClsV (ks.map fun k => V.ty (kName k)) (ks.map fun k => Value.type (kName k))
  | [] => .nil
  | _ :: ks => .cons (.ty _) (vals_ki ks)
/-- isinstance(x, (T1, T2, ..)) -/
theorem pd_isiT {p pos : Pos} {e tupE : Expr} {m : ME} (ks : List Ki) (hm : X.mg "isinstance" = none) (he : PE X e (tD X.K C m)) (ht : PE X tupE (fun σ H Q => ∀ q, H q = none → Q (.ref q) (upd H q (.tup (ks.map fun k => V.ty (kName k))))))
    (hgI : Gl X "isinstance" := by rfl) (hpl : (backTo pos (starEach [tupE] X.env)).any (·.1) = false := by rfl)
    (hs : starEach (e :: [tupE]) X.env = (false, eval e X.env) :: starEach [tupE] X.env := by rfl) (hs2 : starEach (tupE :: []) X.env = (false, eval tupE X.env) :: starEach [] X.env := by rfl) :
    PE X (.Call (.Name "isinstance" p) [e, tupE] [] pos) (tD X.K C (mOp1 (bIsi ks) m)) :=
  pe_imp (pe_callB call_isiT hgI hm (by decide +kernel) (pa_cons he (pa_cons ht pa_nil hs2) hs) (by decide) (by decide) hs hpl) (by
    rintro σ H Q ⟨F, sd, Qd, R, h, kk⟩
    refine ⟨F, sd, _, R, h, fun x H1 F1 a sd1 R1 S1 rx h1 => fun q hq => ?_⟩
    obtain ⟨z, ez, qq⟩ := h1
    cases ez
    have R2 := R1.allocH (o := .tup (ks.map fun k => V.ty (kName k))) hq
    refine ⟨x, q, _, .type (tyD a), _, _, rfl, upd_same, vals_ki ks, ty_rp (fun b o e => same_new hq b o (R1.ext b o e)) rx, kitAny_d a ks, ?_⟩
    refine kk (.bl _) _ F1 _ sd1 R2 (S1.trans ⟨Same.refl _, fun b o e _ => same_new hq b o e, fun _ z => z, fun _ _ z => .inl z, fun b e => ?_⟩) (.bl _) qq
    by_cases zb : b = q
    · subst zb; exact hq
    · rw [upd_ne zb] at e; exact e)
theorem pe_types {es : List Expr} {x1} {pos : Pos} {vs : List V} (h : PA X es (fun _ H Q => Q vs H)) (hl : vs.length ≤ 100) : PE X (.Tuple es x1 pos) (fun σ H Q => ∀ q, H q = none → Q (.ref q) (upd H q (.tup vs))) :=
  pe_imp (pe_tup h) fun σ H Q q => ⟨Nat.le_trans hl (by decide), q⟩
theorem pa_types {es : List Expr} {T : Str} {p2 : Pos} {vs : List V} (k : Ki) (hT : X.mg T = none) (h : PA X es (fun _ H Q => Q vs H)) (hv : bootBuiltins T = some (.type (kName k)) := by decide +kernel) (hgT : Gl X T := by rfl) (hn : T ≠ "__name__" := by decide)
    (hdb : (T == ("__debug__" : Str)) = false := by decide) (hs : starEach (.Name T p2 :: es) X.env = (false, eval (.Name T p2) X.env) :: starEach es X.env := by rfl) : PA X (.Name T p2 :: es) (fun _ H Q => Q (V.ty (kName k) :: vs) H) :=
  pa_imp (pa_cons (pe_bltn (v := .ty (kName k)) hgT hT hv rfl hn hdb) h hs) fun σ H Q q => q
theorem pa_types0 : PA X [] (fun _ H Q => Q [] H) := pa_imp pa_nil fun σ H Q q => q
theorem cut_rpA {F : Hp} {vs : List V} {ds : List PyData} (r : RpA K F vs ds) (lo hi : Option Int) : RpA K F (cutV vs lo hi) (cutL ds lo hi) := by
  have e : ∀ o n d, HT.sIx n d o = DL.sIx n d o := fun o n d => by cases o <;> rfl
  unfold cutV cutL
  rw [r.length, e, e]
  exact (r.drop _).take _
abbrev rSlX (K : PySem.W.Frag) : V → Option Int → Option Int → Hp → VK → Prop := fun x lo hi H Q => (rSlL K x lo hi H Q ∨ rSlA K x lo hi H Q) ∨ rSlS x lo hi H Q
theorem sl_any : SlR X (rSlX X.K) := slR_or (slR_or sl_list sl_tupA) sl_str
theorem whole_cut {α : Type} (xs : List α) (lo hi : Option Int) (h : DL.sIx xs.length 0 lo = 0 ∧ DL.sIx xs.length xs.length hi = xs.length) : cutL xs lo hi = xs := by
  unfold cutL
  rw [h.1, h.2]
  simp
theorem rl_sl : ∀ (F H : Hp) (x : V) (a z : PyData) (lo hi : Option Int) (Q : VK), Same F H → (∀ p, H p = none → F p = none) → Rp K F x a → opSl a lo hi = some z → (∀ v F' H', Al F H F' H' → Rp K F' v z → Q v H') → rSlX K x lo hi H Q := by
  intro F H x a z lo hi Q e f rx h k
  have es : ∀ o n d, HT.sIx n d o = DL.sIx n d o := fun o n d => by cases o <;> rfl
  unfold opSl at h
  split at h
  · cases h
    cases rx with
    | lst h1 r1 => exact .inl (.inl ⟨_, _, rfl, .inl (.inl (e _ _ h1)), fun p hp => k _ _ _ (.new hp) (.lst upd_same ((cut_rpA r1 lo hi).mono (same_new (f p hp))))⟩)
  · cases h
    cases rx with
    | @tup a' xs ds h1 r1 =>
      refine .inl (.inr ⟨_, _, rfl, same_t e h1, fun hw => ?_, fun _ p hp => k _ _ _ (.new hp) (.tup (.inl (.inl upd_same)) ((cut_rpA r1 lo hi).mono (same_new (f p hp))))⟩)
      rw [r1.length, es, es] at hw
      rw [whole_cut _ lo hi hw] at k
      exact k _ F H .id (.tup h1 r1)
  · split at h
    · rename_i z' hl
      cases h
      cases rx
      refine .inr ⟨_, rfl, line_of hl, ?_⟩
      have : cutS z' lo hi = ⟨(cutL z'.cps.toList lo hi).toArray⟩ := by
        unfold cutS cutL
        rw [es, es]
        have : z'.cps.toList.length = z'.length := by simp [Str.length]
        rw [this]
      rw [this]
      exact k _ F H .id (.str _)
    · cases h
  · cases h
theorem hpart {me : ME} : ∀ σ H Q F sd Qd, Rs K C F H σ sd → mPart me sd Qd → (∀ o H' F' sd', Rs K C F' H' σ sd' → Stp σ sd F H F' H' sd' → Qd o sd' → Q o H') → tPart (tD K C me) σ H Q := by
  intro σ H Q F sd Qd R h k
  refine ⟨F, sd, _, R, h, fun v H' F' d sd' R' S r q => ?_⟩
  obtain ⟨i, rfl, q⟩ := q
  cases r
  exact ⟨i, rfl, k (some i) H' F' sd' R' S q⟩
theorem hnopart : ∀ σ H Q F sd Qd, Rs K C F H σ sd → mNoPart sd Qd → (∀ o H' F' sd', Rs K C F' H' σ sd' → Stp σ sd F H F' H' sd' → Qd o sd' → Q o H') → tNoPart σ H Q :=
  fun σ H Q F sd Qd R h k => k none H F sd R .refl h
/-- x[a:b] -/
theorem pd_sl2 {e lo hi : Expr} {p2 pos : Pos} {me ml mh : ME} (he : PE X e (tD X.K C me)) (hl : PE X lo (tD X.K C ml)) (hh : PE X hi (tD X.K C mh)) : PE X (.Subscript e (.Slice (some lo) (some hi) none p2) pos) (tD X.K C (mSl opSl me (mPart ml) (mPart mh))) :=
  pd_slice rl_sl hpart hpart (pe_slice sl_any he (po_some hl) (po_some hh))
theorem pd_slA {e lo : Expr} {p2 pos : Pos} {me ml : ME} (he : PE X e (tD X.K C me)) (hl : PE X lo (tD X.K C ml)) : PE X (.Subscript e (.Slice (some lo) none none p2) pos) (tD X.K C (mSl opSl me (mPart ml) mNoPart)) :=
  pd_slice rl_sl hpart hnopart (pe_slice sl_any he (po_some hl) po_none)
theorem pd_slB {e hi : Expr} {p2 pos : Pos} {me mh : ME} (he : PE X e (tD X.K C me)) (hh : PE X hi (tD X.K C mh)) : PE X (.Subscript e (.Slice none (some hi) none p2) pos) (tD X.K C (mSl opSl me mNoPart (mPart mh))) :=
  pd_slice rl_sl hnopart hpart (pe_slice sl_any he po_none (po_some hh))
end
end DL
namespace DL
open PySem PySem.Spec PyProof.Rows L2
section
variable {K : PySem.W.Frag} {X : Cx} {C : Ct}
theorem pdg_name {i : Nat} {x : Str} {pos : Pos} (hN : X.N.Nodup) (hi : X.N[i]? = some x) (hx : Loc X.env.scope x) (hf : X.fn x = true ∨ X.env.scope.names.lookup x = some .local := by first | exact .inl rfl | exact .inr rfl) :
    PG X (.Name x pos) (tDG X.K C (mgName i)) := pg_imp (pg_name hN hi hx hf) (by
  rintro v σ H Q ⟨F, sd, d, Qd, R, r, h, k⟩
  exact k _ _ (R.setva r) h)
theorem pdgs_nil : PGs X [] (tDGs X.K C mgNil) := pgs_imp pgs_nil (by
  rintro v σ H Q ⟨F, sd, ds, Qd, R, r, h, k⟩
  obtain ⟨e, h⟩ := h
  subst e
  cases r
  exact ⟨rfl, k _ _ R h⟩)
theorem pdgs_cons {e : Expr} {es : List Expr} {g : MG} {gs : MGs} (h1 : PG X e (tDG X.K C g)) (h2 : PGs X es (tDGs X.K C gs)) (t : PGs X (e :: es) (gCons (tDG X.K C g) (tDGs X.K C gs))) : PGs X (e :: es) (tDGs X.K C (mgCons g gs)) := pgs_imp t (by
  rintro v σ H Q ⟨F, sd, ds, Qd, R, r, h, k⟩
  obtain ⟨d, rest, e, h⟩ := h
  subst e
  cases r with
  | cons r1 r2 => exact ⟨_, _, rfl, F, sd, d, _, R, r1, h, fun σ' sd' R' q => ⟨F, sd', rest, Qd, R', r2, q, k⟩⟩)
theorem td_tup {n : Nat} {gs : MGs} : ∀ v σ H Q, tDG K C (mgTup n gs) v σ H Q → (gTup K n (tDGs K C gs) v σ H Q ∨ gLst K n (tDGs K C gs) v σ H Q) := by
  rintro v σ H Q ⟨F, sd, d, Qd, R, r, h, k⟩
  obtain ⟨ds, hd, hl, h⟩ := h
  cases r with
  | tup h1 r1 =>
    cases hd
    exact .inl ⟨_, _, rfl, same_t R.ext h1, by rw [r1.length]; exact hl, F, sd, _, Qd, R, r1, h, k⟩
  | lst h1 r1 =>
    cases hd
    exact .inr ⟨_, _, rfl, .inl (.inl (R.ext _ _ h1)), by rw [r1.length]; exact hl, F, sd, _, Qd, R, r1, h, k⟩
  | _ => cases hd
theorem pdg_tup {es : List Expr} {kk : Nat} {pos : Pos} {gs : MGs} {n : Nat} (hc : X.calm = true) (h : PGs X es (tDGs X.K C gs)) (hn : (assignEach es X.env).length = n := by rfl) (hst : (assignEach es X.env).findIdx? (·.1) = none := by rfl) :
    PG X (.Tuple es kk pos) (tDG X.K C (mgTup n gs)) := pg_imp (pg_or (pg_tup hc h hn hst) (pg_lst hc h hn hst)) td_tup
theorem rpA_at {F : Hp} {vs : List V} {ds : List PyData} {i : Nat} {x : V} (r : RpA K F vs ds) (h : vs[i]? = some x) : ∃ d, ds[i]? = some d ∧ Rp K F x d := by
  have hl := (List.getElem?_eq_some_iff.mp h).1
  rw [r.length] at hl
  obtain ⟨v, e, q⟩ := r.get (i := i) (d := ds[i]) (by simp [hl])
  rw [h] at e; cases e
  exact ⟨_, by simp [hl], q⟩
theorem wk_list {a : Addr} {xs : List V} {F : Hp} {ds : List PyData} (h : SqL K F a xs) (r : RpA K F xs ds) : Wk K (Itl K a) F ds := by
  refine ⟨_, _, r.length ▸ walk_list, fun H e => e.seq h, fun i H x H' F' hi e1 e2 y => ?_⟩
  obtain ⟨rfl, y⟩ := y
  obtain ⟨d, hd, q⟩ := rpA_at r y
  exact ⟨F', d, .id, hd, q.mono e1⟩
theorem wk_tup {a : Addr} {xs : List V} {F : Hp} {ds : List PyData} (h : SqT K F a xs) (r : RpA K F xs ds) : Wk K (Itt K a) F ds := by
  refine ⟨_, _, r.length ▸ walk_tup, fun H e => same_t e h, fun i H x H' F' hi e1 e2 y => ?_⟩
  obtain ⟨rfl, y⟩ := y
  obtain ⟨d, hd, q⟩ := rpA_at r y
  exact ⟨F', d, .id, hd, q.mono e1⟩
theorem pi_or {tg e : Expr} {t t' : TI} (h : PI X tg e t) (h' : PI X tg e t') : PI X tg e (fun σ H R => t σ H R ∨ t' σ H R) :=
  ⟨fun pins s σ H R I q => q.elim (h.run pins s σ H R I) (h'.run pins s σ H R I)⟩
/-- over a value that is a list or a tuple: the reading chooses when the value is there -/
def iSeq (K : PySem.W.Frag) (te : TE) : TI := fun σ H R => te σ H fun x H1 => ∃ a, x = .ref a ∧ (((∃ xs, SqL K H1 a xs) ∧ R (Itl K a) H1) ∨ ((∃ xs, SqT K H1 a xs) ∧ R (Itt K a) H1))
theorem pi_seq {tg l : Expr} {tl : TE} (hl : PE X l tl) : PI X tg l (iSeq X.K tl) := by
  refine ⟨fun pins s σ H R I h => thn (hl.run pins s σ H _ I h) fun v s1 hv => ?_⟩
  obtain ⟨x, H1, I1, r1, a, rfl, hq⟩ := hv
  cases r1
  have fresh : FpOk X pins H1 s1.heap.objs.size := I1.fpOk (Nat.le_refl _) (I1.hok.fresh (Nat.le_refl _))
  rcases hq with ⟨⟨xs, hq⟩, q⟩ | ⟨⟨xs, hq⟩, q⟩
  · obtain ⟨its, rv, p, hz⟩ := I1.list hq
    refine wpAny_pyIter_list p.isList ⟨_, [s1.heap.objs.size], _, _, H1, rfl, I1.kept (t' := s1.toks) fun _ _ e => Heap.get?_push_of_some _ e, turn_list a _, ?_, fun b hb => ?_, q⟩
    · exact ⟨_, Heap.get?_push_size _ rfl, rfl, rfl⟩
    · rw [List.mem_singleton.mp hb]; exact fresh
  · obtain ⟨its, rv, p, hz⟩ := I1.tuple hq
    refine wpAny_pyIter_tuple (show s1.heap.IsTuple a its.toArray from p) ⟨_, [s1.heap.objs.size], _, _, H1, rfl, I1.kept (t' := s1.toks) fun _ _ e => Heap.get?_push_of_some _ e, turn_tuple a _, ?_, fun b hb => ?_, q⟩
    · exact ⟨_, Heap.get?_push_size _ rfl, rfl, rfl⟩
    · rw [List.mem_singleton.mp hb]; exact fresh
theorem pdi_seq {tg e : Expr} {m : ME} (h : PE X e (tD X.K C m)) : PI X tg e (tDI X.K C (miSeq m)) := pi_imp (pi_seq h) (by
  rintro σ H R0 ⟨F, sd, Qd, R, h, k⟩
  refine ⟨F, sd, _, R, h, fun x H1 F1 a sd1 R1 S1 rx h1 => ?_⟩
  obtain ⟨ds, hd, q⟩ := h1
  cases rx with
  | tup h2 r2 => cases hd; exact ⟨_, rfl, .inr ⟨⟨_, same_t R1.ext h2⟩, k _ H1 F1 _ sd1 R1 S1 (wk_tup h2 r2) q⟩⟩
  | lst h2 r2 => cases hd; exact ⟨_, rfl, .inl ⟨⟨_, .inl (.inl (R1.ext _ _ h2))⟩, k _ H1 F1 _ sd1 R1 S1 (wk_list (.inl (.inl h2)) r2) q⟩⟩
  | _ => cases hd)
theorem wk_range {F : Hp} {lo : Int} {n : Nat} : Wk K (Itr lo n) F (rangeL lo n) := by
  have hl : (rangeL lo n).length = n := by simp [rangeL]
  refine ⟨fun _ => True, YFn fun i => .int (lo + i), by rw [hl]; exact walk_range, fun _ _ => trivial, fun i H x H' F' hi e1 e2 y => ?_⟩
  obtain ⟨rfl, rfl⟩ := y
  refine ⟨F', _, .id, ?_, .int _⟩
  unfold rangeL
  rw [List.getElem?_map, List.getElem?_range (by rw [hl] at hi; exact hi)]
  rfl
theorem pdi_range1 {tg a : Expr} {p pos : Pos} {m : MA} (hm : X.mg "range" = none) (h : PA X [a] (tDA X.K C m)) (hg : Gl X "range" := by rfl) (t : PI X tg (.Call (.Name "range" p) [a] [] pos) (iRng1 (tDA X.K C m))) : PI X tg (.Call (.Name "range" p) [a] [] pos) (tDI X.K C (miRng1 m)) := pi_imp t (by
  rintro σ H R0 ⟨F, sd, Qd, R, h, k⟩
  refine ⟨F, sd, _, R, h, fun vs H1 F1 ds sd1 R1 S1 rs q => ?_⟩
  obtain ⟨j, rfl, l1, l2, q⟩ := q
  obtain ⟨x, rfl, r⟩ := rpA1 rs
  cases r
  exact ⟨j, rfl, l1, l2, k _ H1 F1 _ sd1 R1 S1 wk_range q⟩)
theorem pdi_range2 {tg a b : Expr} {p pos : Pos} {m : MA} (hm : X.mg "range" = none) (h : PA X [a, b] (tDA X.K C m)) (hg : Gl X "range" := by rfl) (t : PI X tg (.Call (.Name "range" p) [a, b] [] pos) (iRng2 (tDA X.K C m))) : PI X tg (.Call (.Name "range" p) [a, b] [] pos) (tDI X.K C (miRng2 m)) := pi_imp t (by
  rintro σ H R0 ⟨F, sd, Qd, R, h, k⟩
  refine ⟨F, sd, _, R, h, fun vs H1 F1 ds sd1 R1 S1 rs q => ?_⟩
  obtain ⟨i, j, rfl, l, q⟩ := q
  obtain ⟨x, y, rfl, r, r'⟩ := rpA2 rs
  cases r; cases r'
  exact ⟨i, j, rfl, l, k _ H1 F1 _ sd1 R1 S1 wk_range q⟩)
theorem pdi_str {tg e : Expr} {m : ME} (h : PE X e (tD X.K C m)) : PI X tg e (tDI X.K C (miStr m)) := pi_imp (pi_str h) (by
  rintro σ H R0 ⟨F, sd, Qd, R, h, k⟩
  refine ⟨F, sd, _, R, h, fun x H1 F1 a sd1 R1 S1 rx h1 => ?_⟩
  obtain ⟨z, rfl, q⟩ := h1
  cases rx
  refine ⟨z, rfl, k _ H1 F1 _ sd1 R1 S1 ?_ q⟩
  have hl : (signsD z).length = z.cps.size := by simp [signsD]
  refine ⟨fun _ => True, fun i H v H' => H' = H ∧ ∃ c, z.cps[i]? = some c ∧ v = .str ⟨#[c]⟩, by rw [hl]; exact walk_str, fun _ _ => trivial, fun i H x H' F' hi e1 e2 y => ?_⟩
  obtain ⟨rfl, c, hc, rfl⟩ := y
  refine ⟨F', _, .id, ?_, .str _⟩
  unfold signsD
  rw [List.getElem?_map, Array.getElem?_toList, hc]
  rfl)
theorem enumL_get : ∀ (ds : List PyData) (k i : Nat), (enumL k ds)[i]? = ds[i]?.map fun d => .tuple [.int ((k + i : Nat) : Int), d]
  | [], _, _ => rfl
  | d :: ds, k, 0 => rfl
  | d :: ds, k, i + 1 => by
    show (enumL (k + 1) ds)[i]? = _
    rw [enumL_get ds (k + 1) i, show k + 1 + i = k + (i + 1) by omega]
    rfl
theorem pair_al {F H H' : Hp} {T : Addr} {x y : V} {d e : PyData} (hT : H T = none) (e2 : Same F H) (hH : H' = upd H T (.tup [x, y])) (r1 : Rp K F x d) (r2 : Rp K F y e) : ∃ F', Al F H F' H' ∧ Rp K F' (.ref T) (.tuple [d, e]) := by
  subst hH
  have s := same_new (o := .tup [x, y]) (free_of e2 hT)
  exact ⟨_, .new hT, .tup (.inl (.inl upd_same)) (.cons (r1.mono s) (.cons (r2.mono s) .nil))⟩
theorem pdi_enum {elts : List Expr} {kk : Nat} {tpos : Pos} {e : Expr} {p pos : Pos} {m : MA} (t : PI X (.Tuple elts kk tpos) (.Call (.Name "enumerate" p) [e] [] pos) (iEnum X.K (tDA X.K C m))) :
    PI X (.Tuple elts kk tpos) (.Call (.Name "enumerate" p) [e] [] pos) (tDI X.K C (miEnum m)) := pi_imp t (by
  rintro σ H R0 ⟨F, sd, Qd, R, h, k⟩
  refine ⟨F, sd, _, R, h, fun vs H1 F1 ds sd1 R1 S1 rs q => ?_⟩
  obtain ⟨xs, rfl, q⟩ := q
  obtain ⟨x, rfl, r⟩ := rpA1 rs
  cases r with
  | @lst a ys _ h2 r2 =>
    refine ⟨_, _, rfl, .inl (.inl (R1.ext _ _ h2)), k _ H1 F1 _ sd1 R1 S1 ?_ q⟩
    have hl : (enumL 0 xs).length = ys.length := by
      rw [r2.length]
      have : ∀ (l : List PyData) n, (enumL n l).length = l.length := fun l => by
        induction l with
        | nil => intro _; rfl
        | cons d l ih => intro n; simp [enumL, ih]
      exact this xs 0
    refine ⟨fun H => SqL X.K H a ys, YPair (fun i => some (.int (i : Nat))) (fun i => ys[i]?), by rw [hl]; exact walk_enum, fun H e => .inl (.inl (e _ _ h2)), fun i H x H' F' hi e1 e2 y => ?_⟩
    obtain ⟨T, x1, x2, rfl, hT, hH, y1, y2⟩ := y
    cases y1
    obtain ⟨d, hd, rd⟩ := rpA_at r2 y2
    obtain ⟨F2, al, rr⟩ := pair_al hT e2 hH (.int (i : Int)) (rd.mono e1)
    refine ⟨F2, _, al, ?_, rr⟩
    rw [enumL_get, hd]
    simp)
theorem zipL_get : ∀ (xs ys : List PyData) (i : Nat) {x y : PyData}, xs[i]? = some x → ys[i]? = some y → (zipL xs ys)[i]? = some (.tuple [x, y])
  | x :: xs, y :: ys, 0, _, _, h1, h2 => by cases h1; cases h2; rfl
  | x :: xs, y :: ys, i + 1, _, _, h1, h2 => zipL_get xs ys i h1 h2
  | [], _, _, _, _, h1, _ => by simp at h1
  | _ :: _, [], _, _, _, _, h2 => by simp at h2
theorem zipL_len : ∀ (xs ys : List PyData), (zipL xs ys).length = min xs.length ys.length
  | x :: xs, y :: ys => by simp [zipL, zipL_len xs ys]
  | [], _ => by simp [zipL]
  | _ :: _, [] => by simp [zipL]
theorem walk_zipT {a b : Addr} {xs ys : List V} : Walk (RZ.ItzT K a b) (min xs.length ys.length) (fun H => SqT K H a xs ∧ SqT K H b ys) (YPair (fun i => xs[i]?) (fun i => ys[i]?)) := by
  refine ⟨fun i _ hi q => ?_, fun _ q => ⟨xs, ys, q.1, q.2, by omega⟩, fun i H v H' _ q y => ?_⟩
  · exact ⟨xs, ys, xs[i]'(by omega), ys[i]'(by omega), q.1, q.2, by simp [show i < xs.length by omega], by simp [show i < ys.length by omega]⟩
  · obtain ⟨T, x, z, h1, h2, h3, h4, h5⟩ := y
    exact ⟨T, x, z, h1, h2, h3, h4 xs q.1, h5 ys q.2⟩
theorem wk_pairs {J : It} {F : Hp} {xs ys : List V} {ds es : List PyData} {G : Hp → Prop} (hG : ∀ H, Same F H → G H) (w : Walk J (min xs.length ys.length) G (YPair (fun i => xs[i]?) (fun i => ys[i]?))) (r1 : RpA K F xs ds) (r2 : RpA K F ys es) : Wk K J F (zipL ds es) := by
  have hl : (zipL ds es).length = min xs.length ys.length := by rw [zipL_len, r1.length, r2.length]
  refine ⟨G, YPair (fun i => xs[i]?) (fun i => ys[i]?), by rw [hl]; exact w, hG, fun i H x H' F' hi e1 e2 y => ?_⟩
  obtain ⟨T, x1, x2, rfl, hT, hH, y1, y2⟩ := y
  obtain ⟨d, hd, rd⟩ := rpA_at r1 y1
  obtain ⟨e, he, re⟩ := rpA_at r2 y2
  obtain ⟨F2, al, rr⟩ := pair_al hT e2 hH (rd.mono e1) (re.mono e1)
  exact ⟨F2, _, al, zipL_get ds es i hd he, rr⟩
theorem pdi_zip {elts : List Expr} {kk : Nat} {tpos : Pos} {e e2 : Expr} {p pos : Pos} {m : MA} (t : PI X (.Tuple elts kk tpos) (.Call (.Name "zip" p) [e, e2] [] pos) (RZ.iZipA X.K (tDA X.K C m))) :
    PI X (.Tuple elts kk tpos) (.Call (.Name "zip" p) [e, e2] [] pos) (tDI X.K C (miZip m)) := pi_imp t (by
  rintro σ H R0 ⟨F, sd, Qd, R, h, k⟩
  refine ⟨F, sd, _, R, h, fun vs H1 F1 ds sd1 R1 S1 rs q => ?_⟩
  obtain ⟨xs, ys, hd, q⟩ := q
  rcases hd with rfl | rfl
  · obtain ⟨x, y, rfl, r, r'⟩ := rpA2 rs
    cases r with
    | lst h2 r2 =>
      cases r' with
      | lst h3 r3 => exact ⟨_, _, _, _, rfl, .inl ⟨.inl (.inl (R1.ext _ _ h2)), .inl (.inl (R1.ext _ _ h3)), k _ H1 F1 _ sd1 R1 S1 (wk_pairs (fun H e => ⟨.inl (.inl (e _ _ h2)), .inl (.inl (e _ _ h3))⟩) (walk_zip rfl) r2 r3) q⟩⟩
  · obtain ⟨x, y, rfl, r, r'⟩ := rpA2 rs
    cases r with
    | tup h2 r2 =>
      cases r' with
      | tup h3 r3 => exact ⟨_, _, _, _, rfl, .inr ⟨same_t R1.ext h2, same_t R1.ext h3, k _ H1 F1 _ sd1 R1 S1 (wk_pairs (fun H e => ⟨same_t e h2, same_t e h3⟩) walk_zipT r2 r3) q⟩⟩)
theorem pds_nil : PSs X [] (tDS X.K C mNext) := pss_imp pss_nil (by
  rintro D σ H ⟨F, sd, Dd, R, E, h⟩
  exact E.nx F H σ sd (Same.refl _) R h)
theorem pds_cons {st : Stmt} {rest : List Stmt} {a b : MS} (h1 : PS X st (tDS X.K C a)) (h2 : PSs X rest (tDS X.K C b)) : PSs X (st :: rest) (tDS X.K C (mSeq a b)) := pss_imp (pss_cons h1 h2) (by
  rintro D σ H ⟨F, sd, Dd, R, E, h⟩
  exact ⟨F, sd, { Dd with nx := b Dd }, R, ⟨fun F1 H1 σ1 sd1 e R1 q => ⟨F1, sd1, Dd, R1, E.mono e, q⟩, E.rt, E.bk, E.ct⟩, h⟩)
theorem pds_one {st : Stmt} {a : MS} (h : PS X st (tDS X.K C a)) : PSs X [st] (tDS X.K C a) := pss_one h
theorem pds_pass {pos : Pos} : PS X (.Pass pos) (tDS X.K C mNext) := ps_imp ps_pass (by
  rintro D σ H ⟨F, sd, Dd, R, E, h⟩
  exact E.nx F H σ sd (Same.refl _) R h)
theorem pds_break {pos : Pos} : PS X (.Break pos) (tDS X.K C mBreak) := ps_imp ps_break (by
  rintro D σ H ⟨F, sd, Dd, R, E, h⟩
  exact E.bk F H σ sd (Same.refl _) R h)
theorem pds_cont {pos : Pos} : PS X (.Continue pos) (tDS X.K C mCont) := ps_imp ps_continue (by
  rintro D σ H ⟨F, sd, Dd, R, E, h⟩
  exact E.ct F H σ sd (Same.refl _) R h)
theorem td_asg {me : ME} {mg : MG} : ∀ D σ H, tDS K C (mAsg me mg) D σ H → tAsg (tD K C me) (tDG K C mg) D σ H := by
  rintro D σ H ⟨F, sd, Dd, R, E, h⟩
  exact ⟨F, sd, _, R, h, fun v H1 F1 d sd1 R1 S1 r q => ⟨F1, sd1, d, Dd.nx, R1, r, q, fun σ2 sd2 R2 q2 => E.nx F1 H1 σ2 sd2 S1.fr R2 q2⟩⟩
theorem pds_asg {tg e : Expr} {pos : Pos} {me : ME} {mg : MG} (t : PS X (.Assign [tg] e pos) (tAsg (tD X.K C me) (tDG X.K C mg))) : PS X (.Assign [tg] e pos) (tDS X.K C (mAsg me mg)) := ps_imp t td_asg
theorem td_asgR {i : Nat} {mr : MR} : ∀ D σ H, tDS K C (mAsgR i mr) D σ H → tAsg (tDR K C mr) (gName i) D σ H := by
  rintro D σ H ⟨F, sd, Dd, R, E, h⟩
  exact ⟨F, sd, _, R, h, fun v H1 F1 r sd1 R1 S1 rv fre new q => E.nx F1 H1 _ _ S1.fr (R1.setr rv fre) q⟩
theorem pds_asgR {tg e : Expr} {pos : Pos} {i : Nat} {mr : MR} (t : PS X (.Assign [tg] e pos) (tAsg (tDR X.K C mr) (gName i))) : PS X (.Assign [tg] e pos) (tDS X.K C (mAsgR i mr)) := ps_imp t td_asgR
theorem pds_if {c : Expr} {a b : List Stmt} {t : MT} {ma mb : MS} {pos : Pos} (hc : PT X c (tDT X.K C t)) (ha : PSs X a (tDS X.K C ma)) (hb : PSs X b (tDS X.K C mb)) : PS X (.If c a b pos) (tDS X.K C (mIf t ma mb)) := ps_imp (ps_if hc ha hb) (by
  rintro D σ H ⟨F, sd, Dd, R, E, h⟩
  refine ⟨F, sd, _, R, h, fun b H1 F1 sd1 R1 S1 q => ?_⟩
  cases b with
  | true => exact ⟨F1, sd1, Dd, R1, E.mono S1.fr, q⟩
  | false => exact ⟨F1, sd1, Dd, R1, E.mono S1.fr, q⟩)
theorem pds_ret {e : Expr} {mr : MR} {pos : Pos} (he : PE X e (tDR X.K C mr)) : PS X (.Return (some e) pos) (tDS X.K C (mRet mr)) := ps_imp (ps_ret he) (by
  rintro D σ H ⟨F, sd, Dd, R, E, h⟩
  exact ⟨F, sd, _, R, h, fun v H1 F1 r sd1 R1 S1 rv fre new q => E.rt F1 H1 σ sd1 v r S1.fr R1 rv (fun o q' e => R.still q' (new o q' e)) q⟩)
theorem pds_retN {pos : Pos} : PS X (.Return none pos) (tDS X.K C mRetN) := ps_imp ps_retN (by
  rintro D σ H ⟨F, sd, Dd, R, E, h⟩
  exact E.rt F H σ sd .non (.va .none) (Same.refl _) R ⟨_, rfl, .non⟩ (fun z => nomatch z) h)
theorem pds_drop {e : Expr} {me : ME} {pos : Pos} (he : PE X e (tD X.K C me)) (hs : swapsWith e none pos.line X.env = pure false := by rfl) : PS X (.Expr e pos) (tDS X.K C (mDrop me)) := ps_imp (ps_expr he hs) (by
  rintro D σ H ⟨F, sd, Dd, R, E, h⟩
  exact ⟨F, sd, _, R, h, fun v H1 F1 d sd1 R1 S1 r q => E.nx F1 H1 σ sd1 S1.fr R1 q⟩)
theorem pds_doc {x j pos pos'} : PS X (.Expr (.Constant (.str x) j pos) pos') (tDS X.K C mNext) := ps_imp ps_doc (by
  rintro D σ H ⟨F, sd, Dd, R, E, h⟩
  exact E.nx F H σ sd (Same.refl _) R h)
theorem Rs.setOwn {F H : Hp} {σ : L2.St} {sd : DSt} (R : Rs K C F H σ sd) {i : Nat} {ds ds' : List PyData} {p : Addr} {vs' : List V} (h : sget sd i = .own ds) (e : gv σ i = some (.ref p)) (r : RpA K F vs' ds') : Rs K C F (upd H p (.lst vs')) σ (sset sd i (.own ds')) := by
  have hi := R.slot i
  rw [h] at hi
  obtain ⟨p', vs, e1, e2, e3, e4, r0⟩ := hi
  rw [e] at e1; cases e1
  have hl : i < sd.length := R.lt_of_own (by rw [h]; intro z; cases z)
  have other : ∀ j q, j ≠ i → isOwn (sget sd j) = true → gv σ j = some (.ref q) → q ≠ p := fun j q hj ho eq z => by
    subst z
    exact R.sep i j q (Ne.symm hj) (by rw [h]; rfl) ho e eq
  refine ⟨by rw [sset_length]; exact R.len, R.grow, fun a x q => ?_, R.new, fun a x q n => ?_, fun a q => ?_, fun j => ?_, fun j k q hjk o1 o2 z1 => ?_⟩
  · have : a ≠ p := fun z => by subst z; rw [e3] at q; cases q
    rw [upd_ne this]; exact R.ext a x q
  · have : a ≠ p := fun z => by subst z; rw [e4] at q; cases q
    rw [upd_ne this]; exact R.keep a x q n
  · by_cases z : a = p
    · subst z; exact e4
    · rw [upd_ne z] at q; exact R.still a q
  · by_cases hj : j = i
    · subst hj; rw [sget_sset hl]; exact ⟨p, vs', e, upd_same, e3, e4, r⟩
    · rw [sget_sset_ne hj]
      exact (R.slot j).grow (Same.refl _) fun q x ho eq eh en => ⟨by rw [upd_ne (other j q hj ho eq)]; exact eh, en⟩
  · have own_of : ∀ m, isOwn (sget (sset sd i (.own ds')) m) = true → isOwn (sget sd m) = true := fun m o => by
      by_cases hm : m = i
      · subst hm; rw [h]; rfl
      · rw [sget_sset_ne hm] at o; exact o
    exact R.sep j k q hjk (own_of j o1) (own_of k o2) z1
/-- x.append(e), x a slot that owns its list -/
theorem pds_app {i : Nat} {x : Str} {p apos cpos pos : Pos} {e : Expr} {me : ME}
    (t : PS X (.Expr (.Call (.Attribute (.Name x p) "append" apos) [e] [] cpos) pos) (tDrop (tBM X.K "list" rAppend (tVar i) (tCons (tD X.K C me) tNil)))) :
    PS X (.Expr (.Call (.Attribute (.Name x p) "append" apos) [e] [] cpos) pos) (tDS X.K C (mApp i me)) := ps_imp t (by
  rintro D σ H ⟨F, sd, Dd, R, E, ⟨ds0, h0⟩, h⟩
  have hi := R.slot i
  rw [h0] at hi
  obtain ⟨q, vs, e1, e2, e3, e4, r⟩ := hi
  refine ⟨.ref q, gv_some.mp e1, .inl ⟨rfl, vs, .inl (.inl e2)⟩, F, sd, _, R, h, fun v H1 F1 d sd1 R1 S1 rv hh => ?_⟩
  obtain ⟨ds, h1, hlen, hnx⟩ := hh
  have hi1 := R1.slot i
  rw [h1] at hi1
  obtain ⟨q', vs1, z1, z2, z3, z4, r1⟩ := hi1
  rw [e1] at z1; cases z1
  refine ⟨q, vs1, v, rfl, rfl, z2, by rw [r1.length]; exact line_lt hlen, ?_⟩
  exact E.nx F1 _ σ _ S1.fr (R1.setOwn h1 e1 (r1.snoc rv)) hnx)
theorem drop_get {α : Type} {l : List α} {i : Nat} {d : α} (h : l[i]? = some d) : l.drop i = d :: l.drop (i + 1) := by
  have hi := (List.getElem?_eq_some_iff.mp h).1
  rw [List.drop_eq_getElem_cons hi, (List.getElem?_eq_some_iff.mp h).2]
theorem td_for {mi : MI} {mg : MG} {body : MS} : ∀ D σ H, tDS K C (mFor mi mg body) D σ H → tFor (tDI K C mi) (tDG K C mg) (tDS K C body) D σ H := by
  rintro D σ H ⟨F, sd, Dd, R, E, h⟩
  refine ⟨F, sd, _, R, h, fun J H1 F1 ds sd1 R1 S1 W h1 => ?_⟩
  obtain ⟨G, Y, w, hG, hY⟩ := W.ex
  refine for_it w (fun i σ' H' => ∃ F' sd', Rs K C F' H' σ' sd' ∧ Same F1 F' ∧ forL mg body Dd (ds.drop i) sd') ⟨F1, sd1, R1, Same.refl _, h1⟩ (fun i σ' H' _ ⟨F', sd', R', e, _⟩ => hG H' (e.trans R'.ext)) (fun i x σ' H' H'' hi ⟨F', sd', R', e, q⟩ y => ?_) (fun σ' H' ⟨F', sd', R', e, q⟩ => ?_)
  · obtain ⟨F2, d, al, hd, rd⟩ := hY i H' x H'' F' hi e R'.ext y
    rw [drop_get hd] at q
    have s2 : Same F1 F2 := e.trans (Stp.al R' al).fr
    refine ⟨F2, sd', d, _, R'.al al, rd, q, fun σ2 sd2 R2 q2 => ⟨F2, sd2, _, R2, ?_, q2⟩⟩
    exact ⟨fun F3 H3 σ3 sd3 e3 R3 q3 => ⟨F3, sd3, R3, s2.trans e3, q3⟩, (E.mono (S1.fr.trans s2)).rt, fun F3 H3 σ3 sd3 e3 R3 q3 => E.nx F3 H3 σ3 sd3 ((S1.fr.trans s2).trans e3) R3 q3, fun F3 H3 σ3 sd3 e3 R3 q3 => ⟨F3, sd3, R3, s2.trans e3, q3⟩⟩
  · rw [List.drop_length] at q
    exact E.nx F' H' σ' sd' (S1.fr.trans e) R' q
theorem pds_for {tg iter : Expr} {body : List Stmt} {pos : Pos} {mi : MI} {mg : MG} {mb : MS} (t : PS X (.For tg iter body [] pos) (tFor (tDI X.K C mi) (tDG X.K C mg) (tDS X.K C mb))) : PS X (.For tg iter body [] pos) (tDS X.K C (mFor mi mg mb)) := ps_imp t td_for
theorem td_while {mt : MT} {body : MS} : ∀ D σ H, tDS K C (mWhile mt body) D σ H → tWhile (tDT K C mt) (tDS K C body) D σ H := by
  rintro D σ H ⟨F, sd, Dd, R, E, n, h⟩
  refine ⟨fun m σ' H' => ∃ F' sd', Rs K C F' H' σ' sd' ∧ Same F F' ∧ whileN mt body Dd m sd', ⟨n, F, sd, R, Same.refl _, h⟩, fun m σ' H' hw => ?_⟩
  obtain ⟨F', sd', R', e, q⟩ := hw
  cases m with
  | zero => exact q.elim
  | succ m =>
    refine ⟨F', sd', _, R', q, fun b H1 F1 sd1 R1 S1 q1 => ?_⟩
    have s1 := e.trans S1.fr
    cases b with
    | true =>
      refine ⟨fun σ2 H2 => ∃ F2 sd2, Rs K C F2 H2 σ2 sd2 ∧ Same F F2 ∧ whileN mt body Dd m sd2, fun σ2 H2 z => ⟨m, Nat.lt_succ_self m, z⟩, F1, sd1, _, R1, ?_, q1⟩
      exact ⟨fun F3 H3 σ3 sd3 e3 R3 q3 => ⟨F3, sd3, R3, s1.trans e3, q3⟩, (E.mono s1).rt, fun F3 H3 σ3 sd3 e3 R3 q3 => E.nx F3 H3 σ3 sd3 (s1.trans e3) R3 q3, fun F3 H3 σ3 sd3 e3 R3 q3 => ⟨F3, sd3, R3, s1.trans e3, q3⟩⟩
    | false => exact E.nx F1 H1 σ' sd1 s1 R1 q1
theorem pds_while {c : Expr} {body : List Stmt} {pos : Pos} {mt : MT} {mb : MS} (t : PS X (.While c body [] pos) (tWhile (tDT X.K C mt) (tDS X.K C mb))) : PS X (.While c body [] pos) (tDS X.K C (mWhile mt mb)) := ps_imp t td_while
end
end DL
namespace DL
open PySem PySem.Spec PyProof.Rows L2
section
variable {K : PySem.W.Frag} {X : Cx} {C : Ct}
theorem rs_wipe {F H : Hp} {σ : L2.St} {sd : DSt} (R : Rs K C F H σ sd) : ∀ vs : List Nat, Rs K C F H (wipe σ vs) (swipe sd vs)
  | [] => R
  | v :: vs => (rs_wipe R vs).setno
theorem sget_swipe : ∀ {sd : DSt} {vs : List Nat} {i : Nat}, i ∉ vs → sget (swipe sd vs) i = sget sd i
  | _, [], _, _ => rfl
  | sd, v :: vs, i, h => by
    show sget (sset (swipe sd vs) v .no) i = _
    rw [sget_sset_ne (fun z => h (by simp [z]))]
    exact sget_swipe fun z => h (by simp [z])
theorem sget_sback : ∀ {s0 sd : DSt} {vs : List Nat} {i : Nat}, i ∉ vs → sget (sback s0 sd vs) i = sget sd i
  | _, _, [], _, _ => rfl
  | s0, sd, v :: vs, i, h => by
    show sget (sset (sback s0 sd vs) v _) i = _
    rw [sget_sset_ne (fun z => h (by simp [z]))]
    exact sget_sback fun z => h (by simp [z])
theorem sback_length : ∀ {s0 sd : DSt} {vs : List Nat}, (sback s0 sd vs).length = sd.length
  | _, _, [] => rfl
  | s0, sd, v :: vs => by show (sset (sback s0 sd vs) v _).length = _; rw [sset_length]; exact sback_length
theorem swipe_length : ∀ {sd : DSt} {vs : List Nat}, (swipe sd vs).length = sd.length
  | _, [] => rfl
  | sd, v :: vs => by show (sset (swipe sd vs) v _).length = _; rw [sset_length]; exact swipe_length
theorem gv_wipe : ∀ {σ : L2.St} {vs : List Nat} {i : Nat}, i ∉ vs → gv (wipe σ vs) i = gv σ i
  | _, [], _, _ => rfl
  | σ, v :: vs, i, h => by
    show gv ((wipe σ vs).set v none) i = _
    rw [gv_set_ne (fun z => h (by simp [z]))]
    exact gv_wipe fun z => h (by simp [z])
theorem sget_sback_in : ∀ {s0 sd : DSt} {vs : List Nat} {i : Nat}, i ∈ vs → sd.length = s0.length → sget (sback s0 sd vs) i = sget s0 i
  | s0, sd, v :: vs, i, h, hl => by
    show sget (sset (sback s0 sd vs) v (sget s0 v)) i = _
    by_cases hv : i = v
    · subst hv
      by_cases hi : i < s0.length
      · rw [sget_sset (by rw [sback_length, hl]; exact hi)]
      · rw [sget_out (by rw [sset_length, sback_length, hl]; omega), sget_out (by omega)]
    · rw [sget_sset_ne hv]
      exact sget_sback_in (by simpa [hv] using h) hl
theorem unOwn_of {s : DSt} {vs : List Nat} (h : unOwn s vs = true) {j : Nat} (hj : j ∈ vs) : isOwn (sget s j) = false := by
  unfold unOwn at h
  have := List.all_eq_true.mp h j hj
  cases e : sget s j <;> rw [e] at this <;> first | rfl | cases this
/-- targets within a comprehension: only its own slots change -/
def tDGv (K : PySem.W.Frag) (C : Ct) (vs : List Nat) (m : MG) : TG := fun v σ H Q => ∃ F sd d Qd, Rs K C F H σ sd ∧ Rp K F v d ∧ m d sd Qd ∧ ∀ σ' sd', Rs K C F H σ' sd' → wipe σ' vs = wipe σ vs → (∀ a, Owned σ' sd' a → Owned σ sd a) → Qd sd' → Q σ' H
def tDGsv (K : PySem.W.Frag) (C : Ct) (vs : List Nat) (m : MGs) : TGs := fun v σ H Q => ∃ F sd d Qd, Rs K C F H σ sd ∧ RpA K F v d ∧ m d sd Qd ∧ ∀ σ' sd', Rs K C F H σ' sd' → wipe σ' vs = wipe σ vs → (∀ a, Owned σ' sd' a → Owned σ sd a) → Qd sd' → Q σ' H
theorem wipe_set {σ : L2.St} {x : Option V} : ∀ {vs : List Nat} {i : Nat}, i ∈ vs → wipe (σ.set i x) vs = wipe σ vs
  | v :: vs, i, h => by
    show (wipe (σ.set i x) vs).set v none = (wipe σ vs).set v none
    by_cases hi : i ∈ vs
    · rw [wipe_set hi]
    · have hv : i = v := by simpa [hi] using h
      subst hv
      have comm : ∀ (ws : List Nat), i ∉ ws → wipe (σ.set i x) ws = (wipe σ ws).set i x := by
        intro ws
        induction ws with
        | nil => intro _; rfl
        | cons w ws ih =>
          intro hn
          show (wipe (σ.set i x) ws).set w none = ((wipe σ ws).set w none).set i x
          rw [ih (fun z => hn (by simp [z])), List.set_comm _ _ (show i ≠ w from fun z => hn (by simp [z]))]
      rw [comm vs hi, List.set_set]
theorem pdgv_name {vs : List Nat} {i : Nat} {x : Str} {pos : Pos} (hv : i ∈ vs) (h : PG X (.Name x pos) (gName i)) : PG X (.Name x pos) (tDGv X.K C vs (mgName i)) := pg_imp h (by
  rintro v σ H Q ⟨F, sd, d, Qd, R, r, h, k⟩
  refine k _ _ (R.setva r) (wipe_set hv) (fun a ⟨j, o, e⟩ => ?_) h
  by_cases hj : j = i
  · subst hj
    by_cases hl : j < sd.length
    · rw [sget_sset hl] at o; cases o
    · rw [sget_out (by rw [sset_length]; omega)] at o; cases o
  · rw [sget_sset_ne hj] at o; rw [gv_set_ne hj] at e; exact ⟨j, o, e⟩)
theorem pdgsv_nil {vs : List Nat} : PGs X [] (tDGsv X.K C vs mgNil) := pgs_imp pgs_nil (by
  rintro v σ H Q ⟨F, sd, ds, Qd, R, r, h, k⟩
  obtain ⟨e, h⟩ := h
  subst e
  cases r
  exact ⟨rfl, k _ _ R rfl (fun _ h => h) h⟩)
theorem pdgsv_cons {vs : List Nat} {e : Expr} {es : List Expr} {g : MG} {gs : MGs} (t : PGs X (e :: es) (gCons (tDGv X.K C vs g) (tDGsv X.K C vs gs))) : PGs X (e :: es) (tDGsv X.K C vs (mgCons g gs)) := pgs_imp t (by
  rintro v σ H Q ⟨F, sd, ds, Qd, R, r, h, k⟩
  obtain ⟨d, rest, e, h⟩ := h
  subst e
  cases r with
  | cons r1 r2 => exact ⟨_, _, rfl, F, sd, d, _, R, r1, h, fun σ' sd' R' w o q => ⟨F, sd', rest, Qd, R', r2, q, fun σ2 sd2 R2 w2 o2 q2 => k σ2 sd2 R2 (w2.trans w) (fun a z => o a (o2 a z)) q2⟩⟩)
theorem pdgv_tup {vs : List Nat} {es : List Expr} {kk : Nat} {pos : Pos} {gs : MGs} {n : Nat} (hc : X.calm = true) (h : PGs X es (tDGsv X.K C vs gs)) (hn : (assignEach es X.env).length = n := by rfl) (hst : (assignEach es X.env).findIdx? (·.1) = none := by rfl) :
    PG X (.Tuple es kk pos) (tDGv X.K C vs (mgTup n gs)) := pg_imp (pg_or (pg_tup hc h hn hst) (pg_lst hc h hn hst)) (by
  rintro v σ H Q ⟨F, sd, d, Qd, R, r, h, k⟩
  obtain ⟨ds, hd, hl, h⟩ := h
  cases r with
  | tup h1 r1 =>
    cases hd
    exact .inl ⟨_, _, rfl, same_t R.ext h1, by rw [r1.length]; exact hl, F, sd, _, Qd, R, r1, h, k⟩
  | lst h1 r1 =>
    cases hd
    exact .inr ⟨_, _, rfl, .inl (.inl (R.ext _ _ h1)), by rw [r1.length]; exact hl, F, sd, _, Qd, R, r1, h, k⟩
  | _ => cases hd)
theorem wipe_comm {σ : L2.St} {x : Option V} {i : Nat} : ∀ (ws : List Nat), i ∉ ws → wipe (σ.set i x) ws = (wipe σ ws).set i x
  | [], _ => rfl
  | w :: ws, hn => by
    show (wipe (σ.set i x) ws).set w none = ((wipe σ ws).set w none).set i x
    rw [wipe_comm ws (fun z => hn (by simp [z])), List.set_comm _ _ (show i ≠ w from fun z => hn (by simp [z]))]
theorem wipe_wipe {σ : L2.St} : ∀ vs : List Nat, wipe (wipe σ vs) vs = wipe σ vs
  | [] => rfl
  | v :: vs => by
    show (wipe ((wipe σ vs).set v none) vs).set v none = (wipe σ vs).set v none
    by_cases hv : v ∈ vs
    · rw [wipe_set hv, wipe_wipe vs]
    · rw [wipe_comm vs hv, wipe_wipe vs, List.set_set]
/-- an object that nobody knows is written -/
theorem Rs.updH {F H : Hp} {σ : L2.St} {sd : DSt} {p : Addr} {o : HO} (R : Rs K C F H σ sd) (hF : F p = none) (ho : ¬ Owned σ sd p) (h0 : C.H0 p = none) : Rs K C F (upd H p o) σ sd where
  len := R.len
  grow := R.grow
  ext := fun a x e => by
    have : a ≠ p := fun z => by subst z; rw [hF] at e; cases e
    rw [upd_ne this]; exact R.ext a x e
  new := R.new
  keep := fun a x e n => by
    have : a ≠ p := fun z => by subst z; rw [h0] at e; cases e
    rw [upd_ne this]; exact R.keep a x e n
  still := fun a e => by
    by_cases z : a = p
    · subst z; exact h0
    · rw [upd_ne z] at e; exact R.still a e
  slot := fun i => (R.slot i).grow (Same.refl _) fun q x o2 e eh en => by
    have : q ≠ p := fun z => by subst z; exact ho ⟨i, o2, e⟩
    exact ⟨by rw [upd_ne this]; exact eh, en⟩
  sep := R.sep
theorem owned_at {F H : Hp} {σ : L2.St} {sd : DSt} {p : Addr} (R : Rs K C F H σ sd) (o : Owned σ sd p) : ∃ x, H p = some x := by
  obtain ⟨i, o, e⟩ := o
  have hs := R.slot i
  cases es : sget sd i with
  | no => rw [es] at o; cases o
  | va d => rw [es] at o; cases o
  | scr d => rw [es] at o; cases o
  | exc d => rw [es] at o; cases o
  | own ds' => rw [es] at hs; obtain ⟨q2, vs2, e1, e2, _⟩ := hs; rw [e] at e1; cases e1; exact ⟨_, e2⟩
  | well n => rw [es] at hs; obtain ⟨q2, _, _, _, e1, e2, _⟩ := hs; rw [e] at e1; cases e1; exact ⟨_, e2⟩
theorem owned_wipe {σ : L2.St} {sd : DSt} {vs : List Nat} {a : Addr} (h : Owned (wipe σ vs) (swipe sd vs) a) : Owned σ sd a := by
  obtain ⟨i, o, e⟩ := h
  by_cases hi : i ∈ vs
  · have : ∀ (ws : List Nat), i ∈ ws → sget (swipe sd ws) i = .no := by
      intro ws
      induction ws with
      | nil => intro h; simp at h
      | cons w ws ih =>
        intro h
        show sget (sset (swipe sd ws) w .no) i = .no
        by_cases hw : i = w
        · subst hw
          by_cases hl : i < sd.length
          · rw [sget_sset (by rw [swipe_length]; exact hl)]
          · rw [sget_out (by rw [sset_length, swipe_length]; omega)]
        · rw [sget_sset_ne hw]; exact ih (by simpa [hw] using h)
    rw [this vs hi] at o; cases o
  · rw [sget_swipe hi] at o
    rw [gv_wipe hi] at e
    exact ⟨i, o, e⟩
/-- the end of a comprehension: its slots as they were ahead of it -/
theorem rs_back {F1 H1 F H : Hp} {σ : L2.St} {s1 s : DSt} {vs : List Nat} (R1 : Rs K C F1 H1 σ s1) (hu : unOwn s1 vs = true) (R : Rs K C F H (wipe σ vs) (swipe s vs)) (e : Same F1 F) : Rs K C F H σ (sback s1 s vs) ∧ ∀ a, Owned σ (sback s1 s vs) a → Owned (wipe σ vs) (swipe s vs) a := by
  have hl : s.length = s1.length := by
    have a := R.len
    have b := R1.len
    rw [wipe_length, swipe_length] at a
    omega
  have own : ∀ j, isOwn (sget (sback s1 s vs) j) = true → j ∉ vs := fun j o hj => by
    rw [sget_sback_in hj hl, unOwn_of hu hj] at o; cases o
  refine ⟨⟨by rw [sback_length, hl]; exact R1.len, R.grow, R.ext, R.new, R.keep, R.still, fun j => ?_, fun j k q hjk o1 o2 z1 => ?_⟩, fun a ⟨j, o, ev⟩ => ?_⟩
  · by_cases hj : j ∈ vs
    · rw [sget_sback_in hj hl]
      have := R1.slot j
      have no := unOwn_of hu hj
      exact this.grow e fun q o ho _ _ _ => by rw [no] at ho; cases ho
    · rw [sget_sback hj]
      have := R.slot j
      rw [sget_swipe hj, gv_wipe hj] at this
      exact this
  · have n1 := own j o1
    have n2 := own k o2
    rw [sget_sback n1] at o1
    rw [sget_sback n2] at o2
    have := R.sep j k q hjk (by rw [sget_swipe n1]; exact o1) (by rw [sget_swipe n2]; exact o2) (by rw [gv_wipe n1]; exact z1)
    rw [gv_wipe n2] at this
    exact this
  · have n1 := own j o
    rw [sget_sback n1] at o
    exact ⟨j, by rw [sget_swipe n1]; exact o, by rw [gv_wipe n1]; exact ev⟩
/-- one turn's beginning: the new list at Dl holds what acc tells -/
structure LcSt (K : PySem.W.Frag) (C : Ct) (σ : L2.St) (s1 : DSt) (F1 H1 : Hp) (vs : List Nat) (Dl : Addr) (F' H' : Hp) (s : DSt) (acc : List PyData) : Prop where
  R : Rs K C F' H' (wipe σ vs) (swipe s vs)
  fr : Same F1 F'
  kp : ∀ a o, H1 a = some o → ¬ Owned σ s1 a → H' a = some o
  ow : ∀ a, Owned (wipe σ vs) (swipe s vs) a → Owned σ s1 a
  nw : ∀ a o, F' a = some o → F1 a = some o ∨ H1 a = none ∨ Owned σ s1 a
  st : ∀ a, H' a = none → H1 a = none
  dl : ∃ vacc, H' Dl = some (.lst vacc) ∧ RpA K F' vacc acc
  df : F' Dl = none
theorem lc_end {σ : L2.St} {s1 s : DSt} {F1 H1 F' H' : Hp} {vs : List Nat} {Dl : Addr} {acc : List PyData} (R1 : Rs K C F1 H1 σ s1) (hu : unOwn s1 vs = true) (hD : H1 Dl = none) (L : LcSt K C σ s1 F1 H1 vs Dl F' H' s acc) :
    ∃ vacc, H' Dl = some (.lst vacc) ∧ RpA K F' vacc acc ∧ F' Dl = none ∧ C.H0 Dl = none ∧ Rs K C F' H' σ (sback s1 s vs) ∧ Stp σ s1 F1 H1 F' H' (sback s1 s vs) ∧ ¬ Owned σ (sback s1 s vs) Dl := by
  obtain ⟨vacc, h1, h2⟩ := L.dl
  obtain ⟨Rb, ob⟩ := rs_back R1 hu L.R L.fr
  refine ⟨vacc, h1, h2, L.df, R1.still _ hD, Rb, ⟨L.fr, L.kp, fun a z => L.ow a (ob a z), L.nw, L.st⟩, fun z => ?_⟩
  obtain ⟨x, e⟩ := owned_at R1 (L.ow _ (ob _ z))
  rw [hD] at e; cases e
theorem lc_turn {σ σ2 : L2.St} {s1 s s2 : DSt} {F1 H1 F' H' F2 H2 F3 H3 : Hp} {vs : List Nat} {Dl : Addr} {acc : List PyData} (R1 : Rs K C F1 H1 σ s1) (hD : H1 Dl = none) (L : LcSt K C σ s1 F1 H1 vs Dl F' H' s acc) (al : Al F' H' F2 H2)
    {s0 : DSt} (hw : wipe σ2 vs = wipe σ vs) (ho : ∀ a, Owned σ2 s0 a → Owned (wipe σ vs) (swipe s vs) a) (R3 : Rs K C F3 H3 σ2 s2) (S3 : Stp σ2 s0 F2 H2 F3 H3 s2) : LcSt K C σ s1 F1 H1 vs Dl F3 H3 s2 acc ∧ ¬ Owned (wipe σ vs) (swipe s2 vs) Dl ∧ C.H0 Dl = none := by
  have A := Stp.al L.R al
  have ow3 : ∀ a, Owned (wipe σ vs) (swipe s2 vs) a → Owned σ s1 a := fun a z => by
    rw [← hw] at z
    exact L.ow a (ho a (S3.ow a (owned_wipe z)))
  have nD : ¬ Owned σ s1 Dl := fun z => by
    obtain ⟨x, e⟩ := owned_at R1 z
    rw [hD] at e; cases e
  obtain ⟨vacc, h1, h2⟩ := L.dl
  have h12 : H2 Dl = some (.lst vacc) := A.kp _ _ h1 fun z => nD (L.ow _ z)
  have nD0 : ¬ Owned σ2 s0 Dl := fun z => nD (L.ow _ (ho _ z))
  refine ⟨⟨by rw [← hw]; exact rs_wipe R3 vs, (L.fr.trans A.fr).trans S3.fr, fun a o e n => S3.kp a o (A.kp a o (L.kp a o e n) fun z => n (L.ow a z)) fun z => n (L.ow a (ho a z)), ow3, fun a o e => ?_, fun a e => L.st a (A.st a (S3.st a e)), ⟨vacc, S3.kp _ _ h12 nD0, (h2.mono A.fr).mono S3.fr⟩, ?_⟩, fun z => nD (ow3 _ z), R1.still _ hD⟩
  · rcases S3.nw a o e with e | e | e
    · rcases A.nw a o e with e | e | e
      · exact L.nw a o e
      · exact .inr (.inl (L.st a e))
      · exact .inr (.inr (L.ow a e))
    · exact .inr (.inl (L.st a (A.st a e)))
    · exact .inr (.inr (L.ow a (ho a e)))
  · cases e : F3 Dl with
    | none => rfl
    | some o =>
      rcases S3.nw _ o e with e | e | e
      · rcases A.nw _ o e with e | e | e
        · rw [L.df] at e; cases e
        · rw [h1] at e; cases e
        · exact (nD (L.ow _ e)).elim
      · rw [h12] at e; cases e
      · exact (nD0 e).elim
theorem td_lc {mi : MI} {mg : MG} {mt : MT} {me : ME} {vs : List Nat} {σ : L2.St} {H : Hp} {Q : VK} {F : Hp} {sd : DSt} {P : List PyData → DSt → Prop} (R : Rs K C F H σ sd) (h : mi sd fun ds s => unOwn s vs = true ∧ lcL mg mt me vs (fun out s' => P out (sback s s' vs)) ds s [])
    (k : ∀ Dl H' F' out vout sd', Rs K C F' H' σ sd' → Stp σ sd F H F' H' sd' → H' Dl = some (.lst vout) → RpA K F' vout out → F' Dl = none → C.H0 Dl = none → ¬ Owned σ sd' Dl → H Dl = none → P out sd' → Q (.ref Dl) H') : tLc (tDI K C mi) (tDGv K C vs mg) (tDT K C mt) (tD K C me) vs σ H Q := by
  refine ⟨F, sd, _, R, h, fun J H1 F1 ds s1 R1 S1 W h1 => fun Dl hD => ?_⟩
  obtain ⟨hu, h1⟩ := h1
  obtain ⟨G, Y, w, hG, hY⟩ := W.ex
  have nD : ¬ Owned σ s1 Dl := fun z => by
    obtain ⟨x, e⟩ := owned_at R1 z
    rw [hD] at e; cases e
  refine lc_it w (fun i H' => ∃ F' s acc, LcSt K C σ s1 F1 H1 vs Dl F' H' s acc ∧ lcL mg mt me vs (fun out s' => P out (sback s1 s' vs)) (ds.drop i) s acc) ⟨F1, s1, [], ?_, h1⟩ (fun i H' _ ⟨F', s, acc, L, _⟩ => hG H' (L.fr.trans L.R.ext)) (fun i x H' H'' hi ⟨F', s, acc, L, q⟩ y => ?_) (fun H' ⟨F', s, acc, L, q⟩ => ?_)
  · refine ⟨rs_wipe (R1.allocH hD) vs, Same.refl _, fun a o e _ => same_new hD a o e, fun a z => owned_wipe z, fun a o e => .inl e, fun a e => ?_, ⟨[], upd_same, .nil⟩, R1.free hD⟩
    by_cases z : a = Dl
    · subst z; exact hD
    · rw [upd_ne z] at e; exact e
  · obtain ⟨F2, d, al, hd, rd⟩ := hY i H' x H'' F' hi L.fr L.R.ext y
    rw [drop_get hd] at q
    refine ⟨F2, swipe s vs, d, _, L.R.al al, rd, q, fun σ2 s2 R2 hw ho q2 => ⟨by rw [hw, wipe_wipe], F2, s2, _, R2, q2, fun b H3 F3 s3 R3 S3 q3 => ?_⟩⟩
    rw [wipe_wipe] at hw
    cases b with
    | true =>
      refine ⟨F3, s3, _, R3, q3, fun y H4 F4 dy s4 R4 S4 ry q4 => ?_⟩
      obtain ⟨L4, no4, h04⟩ := lc_turn R1 hD L al hw ho R4 (S3.trans S4)
      obtain ⟨vacc, e1, e2⟩ := L4.dl
      refine ⟨vacc, e1, by rw [e2.length]; exact line_lt q4.1, F4, s4, acc ++ [dy], ⟨L4.R.updH L4.df no4 h04, L4.fr, fun a o e n => ?_, L4.ow, L4.nw, fun a e => ?_, ⟨_, upd_same, e2.snoc ry⟩, L4.df⟩, q4.2⟩
      · have : a ≠ Dl := fun z => by subst z; rw [hD] at e; cases e
        rw [upd_ne this]; exact L4.kp a o e n
      · by_cases z : a = Dl
        · subst z; exact hD
        · rw [upd_ne z] at e; exact L4.st a e
    | false =>
      obtain ⟨L4, _, _⟩ := lc_turn R1 hD L al hw ho R3 S3
      exact ⟨F3, s3, acc, L4, q3⟩
  · rw [List.drop_length] at q
    obtain ⟨vacc, a1, a2, a3, a4, a5, a6, a7⟩ := lc_end R1 hu hD L
    exact k Dl H' F' acc vacc _ a5 (S1.trans a6) a1 a2 a3 a4 a7 (S1.st _ hD) q
end
end DL
namespace DL
open PySem PySem.Spec PyProof.Rows L2
/-- room for k calls, and nothing is being shown -/
structure RoomG (k : Nat) (A : Around) : Prop where
  r : Room k A
  g : A.guards = some []
theorem RoomG.mono {j k : Nat} {A : Around} (h : RoomG k A) (hj : j ≤ k) : RoomG j A := ⟨h.r.mono hj, h.g⟩
theorem RoomG.deeper {k : Nat} {A : Around} (h : RoomG (k + 1) A) (env : Env) : RoomG k (A.deeper env) := ⟨h.r.deeper env, h.g⟩
structure FnG (P : Program) (w : World) (K : PySem.W.Frag) (mg : Str → Option Value) (base : Heap) (k : Nat) (f : Addr) (fd : FuncData) (ps : List Str) (sp : Sp) : Prop where
  len : ∀ vs H Q E, sp vs H Q E → vs.length = ps.length
  run : ∀ {A : Around} {outer : List Env} {s : Shared} {H : Hp} {args : Args} {us : List Value} {vs : List V} {Q : VK} {E : XK}, RoomG k A → Env0 P w K mg base A outer s H → BindsTo s fd args (ps.zip us) → Vals vs us → sp vs H Q E →
    codeAny (model P w) A (.call (.ref f) args) (CR (L2.CX P w) outer P w H s Q E) s
theorem FnG.of {P : Program} {w : World} {K : PySem.W.Frag} {mg : Str → Option Value} {base : Heap} {k : Nat} {f : Addr} {fd : FuncData} {ps : List Str} {sp : Sp} (F : FnOk P w K mg base (L2.CX P w) k f fd ps sp) : FnG P w K mg base k f fd ps sp :=
  ⟨F.len, fun hr e b r h => F.run _ _ _ _ _ _ _ _ _ hr.r e b r h⟩
section
variable {P : Program} {w : World} {K : PySem.W.Frag} {mg : Str → Option Value} {base : Heap} {k : Nat}
/-- a def's promise from its body -/
theorem fun_okG {x qual : Str} {st : Stmt} {f : Addr} {fd : FuncData} {N ps : List Str} {sp : Sp} (F : Fun K x qual st f fd) (S : FnScope N ps (defScope st)) (len : ∀ vs H Q E, sp vs H Q E → vs.length = ps.length)
    (body : ∀ (cdv : Value) (A : Around) (outer : List Env) (s : Shared) (H : Hp) (vs : List V) (Q : VK) (E : XK), RoomG k (A.deeper (envOfC qual (defScope st) s.heap.objs.size f cdv)) → sp vs H Q E →
      ∃ t, PSs (cxOf (L2.CX P w) P w K mg base N qual (defScope st) f cdv A outer s H E) (defBody st) t ∧ t { nx := fun _ H' => Q .non H', rt := Q } (L2.start N vs) H) : FnG P w K mg base (k + 1) f fd ps sp := by
  obtain ⟨oc, od, kV, doc, pm, an, cdv, ct, osl, rfl, lk, code⟩ := F.ex
  refine ⟨len, fun {A outer s H args us vs Q E} hr e0 hb rv hs => ?_⟩
  have stays : ∀ b o, base.get? b = some o → s.heap.get? b = some o := fun b o e => (e0.bs b o e).1
  have KX := e0.mod.kin.keeps stays
  refine codeAny_call_function hr.r.depth (KX _ _ lk) rfl S.co S.gen rfl (PySem.W.codeRec_of KX code) (hb _ _ _ _ (wpAny_newFunctionEnv_cells S.kind (fun y hy => ?_) fun env he s1 x1 => ?_))
  · have hp := S.par y.1 (List.of_mem_zip (show (y.1, y.2) ∈ ps.zip us from hy)).1
    exact hp.imp id fun c => ⟨c, PySem.W.cellsFrom_some _ _ _ (.inl c)⟩
  · subst he
    obtain ⟨t, ht, ht2⟩ := body cdv A outer s H vs Q E (hr.deeper _) hs
    have I0 := inv_start (CX := L2.CX P w) (E := E) S hr.r.hd e0 (len _ _ _ _ hs) rv x1
    refine ⟨(e0.mod.nolimit.keeps stays).keeps x1.toInCall.keep, codeAny_func (wpAny_mono (ht.run [] s1 _ H _ I0 ht2) (fun fl s2 h2 => ?_) fun _ _ h2 => h2)⟩
    cases fl with
    | brk => exact h2.elim fun _ h => h.elim fun _ h => h.2.elim
    | cont => exact h2.elim fun _ h => h.elim fun _ h => h.2.elim
    | next => exact h2.elim fun σ2 h => h.elim fun H2 h => ⟨V.non, H2, h.1.os, h.1.bare, h.1.base, h.1.hok, rfl, h.2⟩
    | ret u => exact h2.elim fun v h => h.elim fun σ2 h => h.elim fun H2 h => ⟨v, H2, h.1.os, h.1.bare, h.1.base, h.1.hok, h.2.1, h.2.2⟩
end
section
variable {X : Cx} {k : Nat} {f : Addr} {fd : FuncData} {ps ks : List Str} {sp : Sp} {E : L2.St → XK} {x : Str} {p pos : Pos} {e : Expr} {es : List Expr} {t tk : TA}
theorem run_fnG {pins : List (Addr × Obj)} {σ : L2.St} {H : Hp} {s : Shared} {Q : VK} {us : List Value} {vs : List V} {args : Args} {n : Nat} (F : FnG X.prog X.w X.K X.mg X.base k f fd ps sp) (hr : RoomG k X.A) (hb : BindsTo s fd args (ps.zip us)) (hx : PassesAt (L2.CX X.prog X.w) X σ (E σ))
    (I : Inv X pins σ H s) (r : Vals vs us) (h : sp vs H Q (E σ)) : codeAny (model X.prog X.w) X.A (.call (.ref f) args) (fun r s' => match r with
      | .error e => X.xe e s'
      | .ok (.ret u) => EP X pins σ Q u s'
      | .ok _ => False) s := by
  refine codeAny_mono (F.run hr I.env0 hb r h) fun r s' hq => ?_
  cases r with
  | error e => exact hx pins H s e s' I hq
  | ok fl =>
    cases fl with
    | ret u => exact I.after hq
    | next => exact hq
    | brk => exact hq
    | cont => exact hq
/-- f(e, ..), and what f raises is wished for at the slots as they stand -/
def tCallG (sp : Sp) (E : L2.St → XK) (t : TA) : TE := fun σ H Q => t σ H fun vs H1 => sp vs H1 Q (E σ)
theorem wp_callG {pins : List (Addr × Obj)} {σ : L2.St} {H : Hp} {s : Shared} {Q : VK} {us : List Value} {vs : List V} (F : FnG X.prog X.w X.K X.mg X.base k f fd ps sp) (hr : RoomG k X.A) (hb : Binds X.K fd ps []) (hx : PassesAt (L2.CX X.prog X.w) X σ (E σ))
    (I : Inv X pins σ H s) (r : Vals vs us) (h : sp vs H Q (E σ)) : wpAny (model X.prog X.w) X.A (call (.ref f) us) (EP X pins σ Q) X.xe s := by
  have hl : (us ++ []).length = ps.length := by rw [List.append_nil, ← r.length]; exact F.len _ _ _ _ h
  have b := hb s us I.kIn hl
  rw [List.append_nil] at b
  refine wpAny_call (codeAny_mono (run_fnG (args := ⟨us, []⟩) (n := 0) F hr b hx I r h) fun r s' hq => ?_)
  rcases r with _ | (_ | _ | _ | _) <;> exact hq
theorem pe_callG (F : FnG X.prog X.w X.K X.mg X.base k f fd ps sp) (hr : RoomG k X.A) (hg : Gl X x) (hm : X.mg x = some (.ref f)) (hk : PySem.W.keepIn X.K (.ref f) = true) (hb : Binds X.K fd ps []) (hx : ∀ σ, PassesAt (L2.CX X.prog X.w) X σ (E σ))
    (ha : PA X (e :: es) t) (hdb : (x == ("__debug__" : Str)) = false) (he : starEach (e :: es) X.env = (false, eval e X.env) :: starEach es X.env) (hpl : (backTo pos (starEach es X.env)).any (·.1) = false) :
    PE X (.Call (.Name x p) (e :: es) [] pos) (tCallG sp E t) :=
  ⟨fun pins s σ H Q I h => wpAny_Call_Name_kw (ld_glob I hg hm (PySem.W.callWith_K (h₀ := X.base) I.ok.mod.kin hk (thn (ha.run pos pins s σ H _ I h) fun us s1 hh => by
    obtain ⟨vs, H1, I1, r, q⟩ := hh
    exact ⟨I1.kIn, wp_callG F hr hb (hx σ) I1 r q⟩) he hpl) hdb)⟩
theorem pe_callG0 (F : FnG X.prog X.w X.K X.mg X.base k f fd ps sp) (hr : RoomG k X.A) (hg : Gl X x) (hm : X.mg x = some (.ref f)) (hk : PySem.W.keepIn X.K (.ref f) = true) (hb : Binds X.K fd ps []) (hx : ∀ σ, PassesAt (L2.CX X.prog X.w) X σ (E σ))
    (hdb : (x == ("__debug__" : Str)) = false) : PE X (.Call (.Name x p) [] [] pos) (tCallG sp E tNil) :=
  ⟨fun pins s σ H Q I h => wpAny_Call_Name_kw (ld_glob I hg hm (PySem.W.callWith_K0 I.kIn hk (wp_callG (us := []) F hr hb (hx σ) I .nil h)) hdb)⟩
/-- f(a, .., k=b, ..) -/
def tCallGK (sp : Sp) (gV : List V → List V → List V) (E : L2.St → XK) (t tk : TA) : TE := fun σ H Q => t σ H fun vs H1 => tk σ H1 fun zs H2 => sp (gV vs zs) H2 Q (E σ)
variable {g : List Value → List Value → List Value} {gV : List V → List V → List V} {kws : List Keyword}
theorem wp_callGK {pins : List (Addr × Obj)} {σ : L2.St} {H : Hp} {s : Shared} {Q : VK} {us ws : List Value} {vs zs : List V} (F : FnG X.prog X.w X.K X.mg X.base k f fd ps sp) (hr : RoomG k X.A) (hb : KBinds X.K fd ps ks g gV) (hx : PassesAt (L2.CX X.prog X.w) X σ (E σ))
    (I : Inv X pins σ H s) (r : Vals vs us) (rz : Vals zs ws) (h : sp (gV vs zs) H Q (E σ)) : wpAny (model X.prog X.w) X.A (call (.ref f) us (ks.zip ws)) (EP X pins σ Q) X.xe s := by
  have rg := hb.rel r rz
  have hl : (g us ws).length = ps.length := rg.length ▸ F.len _ _ _ _ h
  refine wpAny_call (codeAny_mono (run_fnG (args := ⟨us, ks.zip ws⟩) (n := 0) F hr (hb.to s us ws I.kIn hl) hx I rg h) fun r s' hq => ?_)
  rcases r with _ | (_ | _ | _ | _) <;> exact hq
theorem pe_callGK (F : FnG X.prog X.w X.K X.mg X.base k f fd ps sp) (hr : RoomG k X.A) (hg : Gl X x) (hm : X.mg x = some (.ref f)) (hk : PySem.W.keepIn X.K (.ref f) = true) (hb : KBinds X.K fd ps ks g gV) (hx : ∀ σ, PassesAt (L2.CX X.prog X.w) X σ (E σ))
    (ha : PA X (e :: es) t) (hkw : PK X kws tk) (hall : (backToKw pos (keywordEach kws X.env)).all (·.1.isSome) = true) (hks : (backToKw pos (keywordEach kws X.env)).filterMap (·.1) = ks)
    (hdb : (x == ("__debug__" : Str)) = false) (he : starEach (e :: es) X.env = (false, eval e X.env) :: starEach es X.env)
    (hpl : ((backTo pos (starEach (e :: es) X.env)).any (·.1) || (backToKw pos (keywordEach kws X.env)).any (·.1.isNone)) = false) : PE X (.Call (.Name x p) (e :: es) kws pos) (tCallGK sp gV E t tk) := by
  refine ⟨fun pins s σ H Q I h => wpAny_Call_Name_kw (ld_glob I hg hm (PySem.W.callWith_KW (h₀ := X.base) I.ok.mod.kin hk hall (thn (ha.run pos pins s σ H _ I h) fun us s1 hh => ?_) hpl he) hdb)⟩
  obtain ⟨vs, H1, I1, r, q⟩ := hh
  refine thn (hkw.run pos pins s1 σ H1 _ I1 q) fun ws s2 h2 => ?_
  obtain ⟨zs, H2, I2, rz, q2⟩ := h2
  refine ⟨I2.kIn, ?_⟩
  rw [hks]
  exact wp_callGK F hr hb (hx σ) I2 r rz q2
theorem pe_callGK0 (F : FnG X.prog X.w X.K X.mg X.base k f fd ps sp) (hr : RoomG k X.A) (hg : Gl X x) (hm : X.mg x = some (.ref f)) (hk : PySem.W.keepIn X.K (.ref f) = true) (hb : KBinds X.K fd ps ks g gV) (hx : ∀ σ, PassesAt (L2.CX X.prog X.w) X σ (E σ))
    (hkw : PK X kws tk) (hall : (backToKw pos (keywordEach kws X.env)).all (·.1.isSome) = true) (hks : (backToKw pos (keywordEach kws X.env)).filterMap (·.1) = ks)
    (hdb : (x == ("__debug__" : Str)) = false) (hpl : ((backTo pos (starEach [] X.env)).any (·.1) || (backToKw pos (keywordEach kws X.env)).any (·.1.isNone)) = false) : PE X (.Call (.Name x p) [] kws pos) (tCallGK sp gV E tNil tk) := by
  refine ⟨fun pins s σ H Q I h => wpAny_Call_Name_kw (ld_glob I hg hm (PySem.W.callWith_KW0 (h₀ := X.base) I.ok.mod.kin hk hall (thn (hkw.run pos pins s σ H _ I h) fun ws s2 h2 => ?_) hpl) hdb)⟩
  obtain ⟨zs, H2, I2, rz, q2⟩ := h2
  refine ⟨I2.kIn, ?_⟩
  rw [hks]
  exact wp_callGK F hr hb (hx σ) I2 .nil rz q2
end
end DL
namespace DL
open PySem PySem.Spec PyProof.Rows L2
section
variable {K : PySem.W.Frag} {X : Cx} {C : Ct}
/-- a list that nobody knows is made known -/
theorem Rs.freezeD {F H : Hp} {σ : L2.St} {sd : DSt} {p : Addr} {vs : List V} {ds : List PyData} (R : Rs K C F H σ sd) (h : H p = some (.lst vs)) (hF : F p = none) (h0 : C.H0 p = none) (ho : ¬ Owned σ sd p) (r : RpA K F vs ds) :
    Rs K C (upd F p (.lst vs)) H σ sd ∧ Rp K (upd F p (.lst vs)) (.ref p) (.list ds) := by
  have sF : Same F (upd F p (.lst vs)) := same_new hF
  refine ⟨⟨R.len, R.grow.trans sF, fun a x e => ?_, fun a x e => ?_, R.keep, R.still, fun i => ?_, R.sep⟩, .lst upd_same (r.mono sF)⟩
  · by_cases z : a = p
    · subst z; rw [upd_same] at e; cases e; exact h
    · rw [upd_ne z] at e; exact R.ext a x e
  · by_cases z : a = p
    · subst z; exact .inr h0
    · rw [upd_ne z] at e; exact R.new a x e
  · refine (R.slot i).grow sF fun q x o e eh en => ⟨eh, ?_⟩
    have : q ≠ p := fun z => by subst z; exact ho ⟨i, o, e⟩
    rw [upd_ne this]; exact en
theorem Stp.freezeD {F H F' H' : Hp} {σ : L2.St} {sd sd' : DSt} {p : Addr} {o : HO} (S : Stp σ sd F H F' H' sd') (hF : F' p = none) (hn : H p = none) : Stp σ sd F H (upd F' p o) H' sd' where
  fr := S.fr.trans (same_new hF)
  kp := S.kp
  ow := S.ow
  nw := fun a x e => by
    by_cases z : a = p
    · subst z; exact .inr (.inl hn)
    · rw [upd_ne z] at e; exact S.nw a x e
  st := S.st
theorem td_lcV {mi : MI} {mg : MG} {mt : MT} {me : ME} {vs : List Nat} : ∀ σ H Q, tD K C (mLc mi mg mt me vs) σ H Q → tLc (tDI K C mi) (tDGv K C vs mg) (tDT K C mt) (tD K C me) vs σ H Q := by
  rintro σ H Q ⟨F, sd, Qd, R, h, k⟩
  refine td_lc R h fun Dl H' F' out vout sd' R' S h1 r hF h0 ho hn q => ?_
  obtain ⟨R2, rp⟩ := R'.freezeD h1 hF h0 ho r
  exact k _ H' _ _ sd' R2 (S.freezeD hF hn) rp q
theorem td_lcR {mi : MI} {mg : MG} {mt : MT} {me : ME} {vs : List Nat} : ∀ σ H Q, tDR K C (mrLc mi mg mt me vs) σ H Q → tLc (tDI K C mi) (tDGv K C vs mg) (tDT K C mt) (tD K C me) vs σ H Q := by
  rintro σ H Q ⟨F, sd, Qd, R, h, k⟩
  refine td_lc R h fun Dl H' F' out vout sd' R' S h1 r hF h0 ho hn q => ?_
  exact k _ H' F' (.own out) sd' R' S ⟨Dl, vout, rfl, h1, hF, h0, r⟩ (fun _ z e => by cases e; exact ho) (fun _ z e => by cases e; exact hn) q
variable {elt tg iter : Expr} {ifs : List Expr} {scope : Scope} {pos : Pos} {mi : MI} {mg : MG} {mt : MT} {me : ME} {vs : List Nat}
theorem pd_lc (t : PE X (.ListComp elt [⟨tg, iter, ifs, 0⟩] scope pos) (tLc (tDI X.K C mi) (tDGv X.K C vs mg) (tDT X.K C mt) (tD X.K C me) vs)) : PE X (.ListComp elt [⟨tg, iter, ifs, 0⟩] scope pos) (tD X.K C (mLc mi mg mt me vs)) := pe_imp t td_lcV
theorem pdr_lc (t : PE X (.ListComp elt [⟨tg, iter, ifs, 0⟩] scope pos) (tLc (tDI X.K C mi) (tDGv X.K C vs mg) (tDT X.K C mt) (tD X.K C me) vs)) : PE X (.ListComp elt [⟨tg, iter, ifs, 0⟩] scope pos) (tDR X.K C (mrLc mi mg mt me vs)) := pe_imp t td_lcR
/-- y = [..] on one line -/
theorem pds_setLc {y : Expr} {spos : Pos} {i : Nat} (t : PS X (.Assign [y] (.ListComp elt [⟨tg, iter, ifs, 0⟩] scope pos) spos) (tAsg (tLc (tDI X.K C mi) (tDGv X.K C vs mg) (tDT X.K C mt) (tD X.K C me) vs) (gName i))) :
    PS X (.Assign [y] (.ListComp elt [⟨tg, iter, ifs, 0⟩] scope pos) spos) (tDS X.K C (mAsg (mLc mi mg mt me vs) (mgName i))) := ps_imp t (by
  rintro D σ H ⟨F, sd, Dd, R, E, h⟩
  refine td_lcV σ H _ ⟨F, sd, _, R, h, fun v H1 F1 d sd1 R1 S1 r q => ?_⟩
  exact E.nx F1 H1 _ _ S1.fr (R1.setva r) q)
theorem pds_setLcR {y : Expr} {spos : Pos} {i : Nat} (t : PS X (.Assign [y] (.ListComp elt [⟨tg, iter, ifs, 0⟩] scope pos) spos) (tAsg (tLc (tDI X.K C mi) (tDGv X.K C vs mg) (tDT X.K C mt) (tD X.K C me) vs) (gName i))) :
    PS X (.Assign [y] (.ListComp elt [⟨tg, iter, ifs, 0⟩] scope pos) spos) (tDS X.K C (mAsgR i (mrLc mi mg mt me vs))) := ps_imp t (by
  rintro D σ H ⟨F, sd, Dd, R, E, h⟩
  refine td_lcR σ H _ ⟨F, sd, _, R, h, fun v H1 F1 r sd1 R1 S1 rv fre new q => ?_⟩
  exact E.nx F1 H1 _ _ S1.fr (R1.setr rv fre) q)
theorem pdts_nil : PTs X [] (tDT X.K C mTYes) := ⟨fun pins s σ H Q I h => (pts_nil (X := X)).run pins s σ H Q I (by
  obtain ⟨F, sd, Qd, R, h, k⟩ := h
  exact k true H F sd R .refl h)⟩
theorem pdts_one {c : Expr} {t : MT} (h : PT X c (tDT X.K C t)) : PTs X [c] (tDT X.K C t) := pts_one h
end
/-- behind a call that was handed frozen data alone -/
structure Post (K : PySem.W.Frag) (F H F' H' : Hp) : Prop where
  fr : Same F F'
  ext : Same F' H'
  kp : Same H H'
  nw : ∀ a o, F' a = some o → F a = some o ∨ H a = none
def ResOk (K : PySem.W.Frag) (F' H H' : Hp) (v : V) : S → Prop
  | .no => True
  | .scr ns => ∃ p, v = .ref p ∧ SqL K F' p (ns.map V.int)
  | .exc a => v = .ref a
  | .va d => Rp K F' v d
  | .own ds => ∃ p vs, v = .ref p ∧ H' p = some (.lst vs) ∧ F' p = none ∧ H p = none ∧ RpA K F' vs ds
  | .well n => ∃ p a b c, v = .ref p ∧ H' p = some (.lst [.int a, .int b, .int c]) ∧ F' p = none ∧ H p = none ∧ WellOk n a b c
def spP (K : PySem.W.Frag) (CN : String → Option Addr) (spec : PSpec) : Sp := fun vs H Q E => ∃ F ds Qd Ed, Same F H ∧ RpA K F vs ds ∧ spec ds Qd Ed ∧
  (∀ v H' F' r, Post K F H F' H' → ResOk K F' H H' v r → Qd r → Q v H') ∧ ∀ c a H' F', CN c = some a → Post K F H F' H' → Ed c → E (.ref a) none H'
/-- .. and the well -/
structure PostW (K : PySem.W.Frag) (p : Addr) (F H F' H' : Hp) (n' : Nat) : Prop where
  fr : Same F F'
  ext : Same F' H'
  kp : ∀ a o, a ≠ p → H a = some o → H' a = some o
  nw : ∀ a o, F' a = some o → F a = some o ∨ H a = none
  wl : ∃ a b c, H' p = some (.lst [.int a, .int b, .int c]) ∧ WellOk n' a b c
def spW (K : PySem.W.Frag) (spec : WSpec) : Sp := fun vs H Q _ => ∃ F p ws n a b c ds Qd, vs = .ref p :: ws ∧ Same F H ∧ F p = none ∧ H p = some (.lst [.int a, .int b, .int c]) ∧ WellOk n a b c ∧ RpA K F ws ds ∧ spec n ds Qd ∧
  ∀ v H' F' r n', PostW K p F H F' H' n' → ResOk K F' H H' v r → Qd r n' → Q v H'
section
variable {K : PySem.W.Frag} {X : Cx} {C : Ct} {F H F' H' : Hp} {σ : L2.St} {sd : DSt}
theorem Rs.post (R : Rs K C F H σ sd) (P : Post K F H F' H') : Rs K C F' H' σ sd ∧ Stp σ sd F H F' H' sd := by
  have ns : ∀ a, H' a = none → H a = none := fun a e => P.kp.free e
  refine ⟨⟨R.len, R.grow.trans P.fr, P.ext, fun a o e => ?_, fun a o e n => P.kp a o (R.keep a o e n), fun a e => R.still a (ns a e), fun i => (R.slot i).grow P.fr fun q x o e eh en => ⟨P.kp q x eh, ?_⟩, R.sep⟩, ⟨P.fr, fun a o e _ => P.kp a o e, fun _ z => z, fun a o e => ?_, ns⟩⟩
  · rcases P.nw a o e with e | e
    · exact R.new a o e
    · exact .inr (R.still a e)
  · cases z : F' q with
    | none => rfl
    | some y =>
      rcases P.nw q y z with z | z
      · rw [en] at z; cases z
      · rw [eh] at z; cases z
  · rcases P.nw a o e with e | e
    · exact .inl e
    · exact .inr (.inl e)
/-- the result of a call, frozen where it is a list -/
theorem Rs.res {H0 : Hp} {F0 : Hp} {sd0 : DSt} {v : V} {r : S} {d : PyData} (R : Rs K C F' H' σ sd) (S : Stp σ sd0 F0 H0 F' H' sd) (h : ResOk K F' H H' v r) (hn : ∀ p, H p = none → H0 p = none ∧ ¬ Owned σ sd p ∧ C.H0 p = none) (hf : fz r = some d) :
    ∃ F2, Rs K C F2 H' σ sd ∧ Stp σ sd0 F0 H0 F2 H' sd ∧ Rp K F2 v d := by
  cases r with
  | no => cases hf
  | scr _ => cases hf
  | exc _ => cases hf
  | well n => cases hf
  | va d' => cases hf; exact ⟨F', R, S, h⟩
  | own ds =>
    cases hf
    obtain ⟨p, vs, rfl, h1, h2, h3, h4⟩ := h
    have hn3 := hn p h3
    obtain ⟨n1, n2, n3⟩ := hn3
    obtain ⟨R2, rp⟩ := R.freezeD h1 h2 n3 n2 h4
    exact ⟨_, R2, S.freezeD h2 n1, rp⟩
theorem Rs.fresh (R : Rs K C F H σ sd) {p : Addr} (h : H p = none) : ¬ Owned σ sd p ∧ C.H0 p = none :=
  by
  refine ⟨fun z => ?_, R.still p h⟩
  have e := owned_at R z
  rw [h] at e
  exact nomatch e
/-- a def of the text and its promise -/
structure CalP (P : Program) (w : World) (K : PySem.W.Frag) (mg : Str → Option Value) (base : Heap) (CN : String → Option Addr) (k : Nat) (x : Str) (spec : PSpec) : Prop where
  ex : ∃ f fd ps, FnG P w K mg base k f fd ps (spP K CN spec) ∧ mg x = some (.ref f) ∧ PySem.W.keepIn K (.ref f) = true ∧ Binds K fd ps []
structure CalW (P : Program) (w : World) (K : PySem.W.Frag) (mg : Str → Option Value) (base : Heap) (k : Nat) (x : Str) (spec : WSpec) : Prop where
  ex : ∃ f fd ps, FnG P w K mg base k f fd ps (spW K spec) ∧ mg x = some (.ref f) ∧ PySem.W.keepIn K (.ref f) = true ∧ Binds K fd ps []
theorem td_call {CN : String → Option Addr} {spec : PSpec} {W : WD} {ma : MA} : ∀ σ H Q, tD K C (mCall spec W ma) σ H Q → tCallG (spP K CN spec) (WE (wD K C CN W)) (tDA K C ma) σ H Q := by
  rintro σ H Q ⟨F, sd, Qd, R, h, k⟩
  refine ⟨F, sd, _, R, h, fun vs H1 F1 ds sd1 R1 S1 rs h1 => ⟨F1, ds, _, _, R1.ext, rs, h1, fun v H' F' r P ro q => ?_, fun c a H' F' hc P q => ?_⟩⟩
  · obtain ⟨d, hf, q⟩ := q
    obtain ⟨R2, S2⟩ := R1.post P
    obtain ⟨F2, R3, S3, rp⟩ := R2.res (S1.trans S2) ro (fun p hp => ⟨S1.st p hp, fun z => (R1.fresh hp).1 (S2.ow p z), (R1.fresh hp).2⟩) hf
    exact k v H' F2 d sd1 R3 S3 rp q
  · exact ⟨c, a, F', sd1, hc, rfl, rfl, (R1.post P).1, q⟩
theorem pd_call {CN : String → Option Addr} {spec : PSpec} {W : WD} {ma : MA} {x : Str} {p pos : Pos} {e : Expr} {es : List Expr} {k j : Nat} (c : CalP X.prog X.w X.K X.mg X.base CN k x spec) (hr : RoomG j X.A) (hk : k ≤ j) (tk : Takes X (wD X.K C CN W)) (ha : PA X (e :: es) (tDA X.K C ma)) (hg : Gl X x := by rfl)
    (hdb : (x == ("__debug__" : Str)) = false := by decide) (he : starEach (e :: es) X.env = (false, eval e X.env) :: starEach es X.env := by rfl) (hpl : (backTo pos (starEach es X.env)).any (·.1) = false := by rfl) :
    PE X (.Call (.Name x p) (e :: es) [] pos) (tD X.K C (mCall spec W ma)) := by
  obtain ⟨f, fd, ps, F, hm, hkp, hb⟩ := c.ex
  exact pe_imp (pe_callG F (hr.mono hk) hg hm hkp hb (passAt tk) ha hdb he hpl) td_call
/-- .. its result still owned -/
theorem td_callR {CN : String → Option Addr} {spec : PSpec} {W : WD} {ma : MA} (hw : C.isW = false) : ∀ σ H Q, tDR K C (mrCall spec W ma) σ H Q → tCallG (spP K CN spec) (WE (wD K C CN W)) (tDA K C ma) σ H Q := by
  rintro σ H Q ⟨F, sd, Qd, R, h, k⟩
  refine ⟨F, sd, _, R, h, fun vs H1 F1 ds sd1 R1 S1 rs h1 => ⟨F1, ds, _, _, R1.ext, rs, h1, fun v H' F' r P ro q => ?_, fun c a H' F' hc P q => ?_⟩⟩
  · obtain ⟨R2, S2⟩ := R1.post P
    have S3 := S1.trans S2
    have fr : ∀ p, H1 p = none → ¬ Owned σ sd1 p := fun p hp => (R1.fresh hp).1
    cases r with
    | no => exact k v H' F' .no sd1 R2 S3 trivial (fun z => nomatch z) (fun z => nomatch z) q
    | exc a => exact k v H' F' (.exc a) sd1 R2 S3 (congrArg some (show v = .ref a from ro)) (fun z => nomatch z) (fun z => nomatch z) q
    | scr ns => obtain ⟨p, rfl, h1⟩ := ro; exact k _ H' F' (.scr ns) sd1 R2 S3 ⟨p, rfl, h1⟩ (fun z => nomatch z) (fun z => nomatch z) q
    | va d => exact k v H' F' (.va d) sd1 R2 S3 ⟨v, rfl, ro⟩ (fun z => nomatch z) (fun z => nomatch z) q
    | own ds =>
      obtain ⟨p, vs', rfl, h1, h2, h3, h4⟩ := ro
      exact k _ H' F' (.own ds) sd1 R2 S3 ⟨p, vs', rfl, h1, h2, R1.still p h3, h4⟩ (fun _ z e => by cases e; exact fr p h3) (fun _ z e => by cases e; exact S1.st p h3) q
    | well n =>
      obtain ⟨p, a, b, cc, rfl, h1, h2, h3, h4⟩ := ro
      exact k _ H' F' (.well n) sd1 R2 S3 ⟨p, a, b, cc, rfl, h1, h2, .inr ⟨hw, R1.still p h3⟩, h4⟩ (fun _ z e => by cases e; exact fr p h3) (fun _ z e => by cases e; exact S1.st p h3) q
  · exact ⟨c, a, F', sd1, hc, rfl, rfl, (R1.post P).1, q⟩
theorem pdr_call {CN : String → Option Addr} {spec : PSpec} {W : WD} {ma : MA} {x : Str} {p pos : Pos} {e : Expr} {es : List Expr} {k j : Nat} (hw : C.isW = false) (c : CalP X.prog X.w X.K X.mg X.base CN k x spec) (hr : RoomG j X.A) (hk : k ≤ j) (tk : Takes X (wD X.K C CN W)) (ha : PA X (e :: es) (tDA X.K C ma)) (hg : Gl X x := by rfl)
    (hdb : (x == ("__debug__" : Str)) = false := by decide) (he : starEach (e :: es) X.env = (false, eval e X.env) :: starEach es X.env := by rfl) (hpl : (backTo pos (starEach es X.env)).any (·.1) = false := by rfl) :
    PE X (.Call (.Name x p) (e :: es) [] pos) (tDR X.K C (mrCall spec W ma)) := by
  obtain ⟨f, fd, ps, F, hm, hkp, hb⟩ := c.ex
  exact pe_imp (pe_callG F (hr.mono hk) hg hm hkp hb (passAt tk) ha hdb he hpl) (td_callR hw)
/-- f(well, e, ..) -/
theorem Rs.postW {i : Nat} {n n' : Nat} {p : Addr} (R : Rs K C F H σ sd) (h : sget sd i = .well n) (e : gv σ i = some (.ref p)) (hn : ∃ a b c, H p = some (.lst [.int a, .int b, .int c]) ∧ WellOk n a b c) (P : PostW K p F H F' H' n') :
    Rs K C F' H' σ (sset sd i (.well n')) ∧ Stp σ sd F H F' H' (sset sd i (.well n')) := by
  obtain ⟨a0, b0, c0, hp, _⟩ := hn
  have hi := R.slot i
  rw [h] at hi
  obtain ⟨p', a1, b1, c1, z1, z2, z3, z4, _⟩ := hi
  rw [e] at z1; cases z1
  have hl : i < sd.length := R.lt_of_own (by rw [h]; intro z; cases z)
  obtain ⟨a2, b2, c2, w1, w2⟩ := P.wl
  have Fp : F' p = none := by
    cases z : F' p with
    | none => rfl
    | some y =>
      rcases P.nw p y z with z | z
      · rw [z3] at z; cases z
      · rw [hp] at z; cases z
  have own : Owned σ sd p := ⟨i, by rw [h]; rfl, e⟩
  have other : ∀ j q, j ≠ i → isOwn (sget sd j) = true → gv σ j = some (.ref q) → q ≠ p := fun j q hj ho eq z => by
    subst z
    exact R.sep i j q (Ne.symm hj) (by rw [h]; rfl) ho e eq
  have ns : ∀ a, H' a = none → H a = none := fun a z => by
    by_cases za : a = p
    · subst za; rw [w1] at z; cases z
    · cases q : H a with
      | none => rfl
      | some o => rw [P.kp a o za q] at z; cases z
  have ow : ∀ a, Owned σ (sset sd i (.well n')) a → Owned σ sd a := fun a ⟨j, o, ev⟩ => by
    by_cases hj : j = i
    · subst hj; rw [e] at ev; cases ev; exact own
    · rw [sget_sset_ne hj] at o; exact ⟨j, o, ev⟩
  refine ⟨⟨by rw [sset_length]; exact R.len, R.grow.trans P.fr, P.ext, fun a o q => ?_, fun a o q n => ?_, fun a z => R.still a (ns a z), fun j => ?_, fun j k q hjk o1 o2 z1 => ?_⟩, ⟨P.fr, fun a o q n => P.kp a o (fun z => n (z ▸ own)) q, ow, fun a o q => ?_, ns⟩⟩
  · rcases P.nw a o q with q | q
    · exact R.new a o q
    · exact .inr (R.still a q)
  · have ha := R.keep a o q n
    by_cases za : a = p
    · subst za
      rcases z4 with z4 | z4
      · exact (n z4.2).elim
      · rw [z4.2] at q; cases q
    · exact P.kp a o za ha
  · by_cases hj : j = i
    · subst hj; rw [sget_sset hl]; exact ⟨p, a2, b2, c2, e, w1, Fp, z4, w2⟩
    · rw [sget_sset_ne hj]
      refine (R.slot j).grow P.fr fun q x ho eq eh en => ⟨P.kp q x (other j q hj ho eq) eh, ?_⟩
      cases z : F' q with
      | none => rfl
      | some y =>
        rcases P.nw q y z with z | z
        · rw [en] at z; cases z
        · rw [eh] at z; cases z
  · have own_of : ∀ m, isOwn (sget (sset sd i (.well n')) m) = true → isOwn (sget sd m) = true := fun m o => by
      by_cases hm : m = i
      · subst hm; rw [h]; rfl
      · rw [sget_sset_ne hm] at o; exact o
    exact R.sep j k q hjk (own_of j o1) (own_of k o2) z1
  · rcases P.nw a o q with q | q
    · exact .inl q
    · exact .inr (.inl q)
theorem td_callW {spec : WSpec} {i : Nat} {ma : MA} {E : L2.St → XK} : ∀ σ H Q, tD K C (mCallW spec i ma) σ H Q → tCallG (spW K spec) E (tCons (tVar i) (tDA K C ma)) σ H Q := by
  rintro σ H Q ⟨F, sd, Qd, R, ⟨⟨n0, hn0⟩, h⟩, k⟩
  have hi := R.slot i
  rw [hn0] at hi
  obtain ⟨p, _, _, _, e1, _⟩ := hi
  refine ⟨.ref p, gv_some.mp e1, F, sd, _, R, h, fun vs H1 F1 ds sd1 R1 S1 rs h1 => ?_⟩
  obtain ⟨n, hn, h1⟩ := h1
  have hi1 := R1.slot i
  rw [hn] at hi1
  obtain ⟨p', a, b, c, z1, z2, z3, z4, z5⟩ := hi1
  rw [e1] at z1; cases z1
  refine ⟨F1, p, vs, n, a, b, c, ds, _, rfl, R1.ext, z3, z2, z5, rs, h1, fun v H' F' r n' P ro q => ?_⟩
  obtain ⟨d, hf, q⟩ := q
  obtain ⟨R2, S2⟩ := R1.postW hn e1 ⟨a, b, c, z2, z5⟩ P
  obtain ⟨F2, R3, S3, rp⟩ := R2.res (S1.trans S2) ro (fun p hp => ⟨S1.st p hp, fun z => (R1.fresh hp).1 (S2.ow p z), (R1.fresh hp).2⟩) hf
  exact k v H' F2 d _ R3 S3 rp q
theorem pd_callW {spec : WSpec} {i : Nat} {ma : MA} {x y : Str} {p p2 pos : Pos} {es : List Expr} {k j : Nat} {W : WX} (c : CalW X.prog X.w X.K X.mg X.base k x spec) (hr : RoomG j X.A) (hk : k ≤ j) (tk : Takes X W) (hy : PE X (.Name y p2) (tVar i)) (ha : PA X es (tDA X.K C ma)) (hg : Gl X x := by rfl)
    (hdb : (x == ("__debug__" : Str)) = false := by decide) (he : starEach (.Name y p2 :: es) X.env = (false, eval (.Name y p2) X.env) :: starEach es X.env := by rfl) (hpl : (backTo pos (starEach es X.env)).any (·.1) = false := by rfl) :
    PE X (.Call (.Name x p) (.Name y p2 :: es) [] pos) (tD X.K C (mCallW spec i ma)) := by
  obtain ⟨f, fd, ps, F, hm, hkp, hb⟩ := c.ex
  exact pe_imp (pe_callG F (hr.mono hk) hg hm hkp hb (passAt tk) (pa_cons hy ha he) hdb he hpl) td_callW
/-- the def's order out of what is given by place and by keyword -/
structure Ord (g : {α : Type} → List α → List α → List α) : Prop where
  rel : ∀ {α β : Type} (R : α → β → Prop) {as cs : List α} {bs ds : List β}, Paired R as bs → Paired R cs ds → Paired R (g as cs) (g bs ds)
theorem rpA_paired {F : Hp} : ∀ {vs : List V} {ds : List PyData}, RpA K F vs ds → Paired (Rp K F) vs ds
  | _, _, .nil => .nil
  | _, _, .cons h r => .cons h (rpA_paired r)
theorem paired_rpA {F : Hp} : ∀ {vs : List V} {ds : List PyData}, Paired (Rp K F) vs ds → RpA K F vs ds
  | _, _, .nil => .nil
  | _, _, .cons h r => .cons h (paired_rpA r)
structure CalK (P : Program) (w : World) (K : PySem.W.Frag) (mg : Str → Option Value) (base : Heap) (CN : String → Option Addr) (k : Nat) (x : Str) (spec : PSpec) (ks : List Str) (g : {α : Type} → List α → List α → List α) : Prop where
  ex : ∃ f fd ps, FnG P w K mg base k f fd ps (spP K CN spec) ∧ mg x = some (.ref f) ∧ PySem.W.keepIn K (.ref f) = true ∧ KBinds K fd ps ks g g
  ord : Ord g
theorem td_callK {CN : String → Option Addr} {spec : PSpec} {W : WD} {ma mk : MA} {g : {α : Type} → List α → List α → List α} (og : Ord g) : ∀ σ H Q, tD K C (mCallK spec W g ma mk) σ H Q → tCallGK (spP K CN spec) g (WE (wD K C CN W)) (tDA K C ma) (tDA K C mk) σ H Q := by
  rintro σ H Q ⟨F, sd, Qd, R, h, k⟩
  refine ⟨F, sd, _, R, h, fun vs H1 F1 ds sd1 R1 S1 rs h1 => ⟨F1, sd1, _, R1, h1, fun zs H2 F2 es sd2 R2 S2 rz h2 => ?_⟩⟩
  refine ⟨F2, g ds es, _, _, R2.ext, paired_rpA (og.rel _ (rpA_paired (rs.mono S2.fr)) (rpA_paired rz)), h2, fun v H' F' r P ro q => ?_, fun c a H' F' hc P q => ?_⟩
  · obtain ⟨d, hf, q⟩ := q
    obtain ⟨R3, S3⟩ := R2.post P
    have S12 := S1.trans S2
    obtain ⟨F3, R4, S4, rp⟩ := R3.res (S12.trans S3) ro (fun p hp => ⟨S12.st p hp, fun z => (R2.fresh hp).1 (S3.ow p z), (R2.fresh hp).2⟩) hf
    exact k v H' F3 d sd2 R4 S4 rp q
  · exact ⟨c, a, F', sd2, hc, rfl, rfl, (R2.post P).1, q⟩
theorem pd_callK {CN : String → Option Addr} {spec : PSpec} {W : WD} {ma mk : MA} {x : Str} {p pos : Pos} {e : Expr} {es : List Expr} {kws : List Keyword} {ks : List Str} {k j : Nat} {g : {α : Type} → List α → List α → List α} (c : CalK X.prog X.w X.K X.mg X.base CN k x spec ks g) (hr : RoomG j X.A) (hk : k ≤ j) (tk : Takes X (wD X.K C CN W))
    (ha : PA X (e :: es) (tDA X.K C ma)) (hkw : PK X kws (tDA X.K C mk)) (hg : Gl X x := by rfl) (hall : (backToKw pos (keywordEach kws X.env)).all (·.1.isSome) = true := by rfl) (hks : (backToKw pos (keywordEach kws X.env)).filterMap (·.1) = ks := by rfl)
    (hdb : (x == ("__debug__" : Str)) = false := by decide) (he : starEach (e :: es) X.env = (false, eval e X.env) :: starEach es X.env := by rfl)
    (hpl : ((backTo pos (starEach (e :: es) X.env)).any (·.1) || (backToKw pos (keywordEach kws X.env)).any (·.1.isNone)) = false := by rfl) : PE X (.Call (.Name x p) (e :: es) kws pos) (tD X.K C (mCallK spec W g ma mk)) := by
  obtain ⟨f, fd, ps, F, hm, hkp, hb⟩ := c.ex
  exact pe_imp (pe_callGK F (hr.mono hk) hg hm hkp hb (passAt tk) ha hkw hall hks hdb he hpl) (td_callK c.ord)
theorem pd_callK0 {CN : String → Option Addr} {spec : PSpec} {W : WD} {mk : MA} {x : Str} {p pos : Pos} {kws : List Keyword} {ks : List Str} {k j : Nat} {g : {α : Type} → List α → List α → List α} (c : CalK X.prog X.w X.K X.mg X.base CN k x spec ks g) (hr : RoomG j X.A) (hk : k ≤ j) (tk : Takes X (wD X.K C CN W))
    (hkw : PK X kws (tDA X.K C mk)) (hg : Gl X x := by rfl) (hall : (backToKw pos (keywordEach kws X.env)).all (·.1.isSome) = true := by rfl) (hks : (backToKw pos (keywordEach kws X.env)).filterMap (·.1) = ks := by rfl)
    (hdb : (x == ("__debug__" : Str)) = false := by decide) (hpl : ((backTo pos (starEach [] X.env)).any (·.1) || (backToKw pos (keywordEach kws X.env)).any (·.1.isNone)) = false := by rfl) : PE X (.Call (.Name x p) [] kws pos) (tD X.K C (mCallK spec W g mNil mk)) := by
  obtain ⟨f, fd, ps, F, hm, hkp, hb⟩ := c.ex
  refine pe_imp (pe_callGK0 F (hr.mono hk) hg hm hkp hb (passAt tk) hkw hall hks hdb hpl) fun σ H Q h => ?_
  have h' := td_callK (CN := CN) c.ord σ H Q h
  obtain ⟨F, sd, Qd, R, h1, h2⟩ := h'
  exact h2 [] H F [] sd R .refl .nil h1
/-- a call without arguments -/
theorem pd_call0 {CN : String → Option Addr} {spec : PSpec} {W : WD} {x : Str} {p pos : Pos} {k j : Nat} (c : CalP X.prog X.w X.K X.mg X.base CN k x spec) (hr : RoomG j X.A) (hk : k ≤ j) (tk : Takes X (wD X.K C CN W)) (hg : Gl X x := by rfl)
    (hdb : (x == ("__debug__" : Str)) = false := by decide) : PE X (.Call (.Name x p) [] [] pos) (tD X.K C (mCall spec W mNil)) := by
  obtain ⟨f, fd, ps, F, hm, hkp, hb⟩ := c.ex
  refine pe_imp (pe_callG0 F (hr.mono hk) hg hm hkp hb (passAt tk) hdb) fun σ H Q h => ?_
  obtain ⟨F, sd, Qd, R, h1, h2⟩ := td_call (CN := CN) σ H Q h
  exact h2 [] H F [] sd R .refl .nil h1
end
end DL
namespace DL
open PySem PySem.Spec PyProof.Rows L2
/-- a def's body's context -/
abbrev cxD (P : Program) (w : World) (K : PySem.W.Frag) (mg : Str → Option Value) (base : Heap) (N : List Str) (qual : Str) (sc : Scope) (f : Addr) (cdv : Value) (A : Around) (outer : List Env) (s : Shared) (H : Hp) (E : XK) : Cx :=
  cxOf (L2.CX P w) P w K mg base N qual sc f cdv A outer s H E
theorem sget_va : ∀ {ds : List PyData} {k i : Nat} {s : S}, sget (ds.map S.va ++ List.replicate k .no) i = s → (∃ d, ds[i]? = some d ∧ s = .va d) ∨ s = .no
  | [], k, i, s, h => by
    right
    rw [← h]
    have : ∀ (k i : Nat), sget (List.replicate k S.no) i = .no := by
      intro k
      induction k with
      | zero => intro _; rfl
      | succ k ih => intro i; cases i with
        | zero => rfl
        | succ i => exact ih i
    exact this k i
  | d :: ds, k, 0, s, h => .inl ⟨d, rfl, h.symm⟩
  | d :: ds, k, i + 1, s, h => by
    rcases sget_va (ds := ds) (k := k) (i := i) h with ⟨d', h1, h2⟩ | h
    · exact .inl ⟨d', by simpa using h1, h2⟩
    · exact .inr h
theorem start_gv {N : List Str} {vs : List V} {i : Nat} {v : V} (h : vs[i]? = some v) : gv (L2.start N vs) i = some v := by
  unfold L2.start gv
  have hi := (List.getElem?_eq_some_iff.mp h).1
  rw [List.getElem?_append_left (by simpa using hi), List.getElem?_map, h]
  rfl
section
variable {P : Program} {w : World} {K : PySem.W.Frag} {mg : Str → Option Value} {base : Heap} {CN : String → Option Addr}
theorem rs_start {F H : Hp} {N : List Str} {vs : List V} {ds : List PyData} (e : Same F H) (r : RpA K F vs ds) (hl : ds.length ≤ N.length) : Rs K ⟨F, H, fun _ => False, false⟩ F H (L2.start N vs) (slots0 N.length ds) where
  len := by unfold L2.start slots0; simp [r.length]
  grow := Same.refl _
  ext := e
  new := fun a o h => .inl h
  keep := fun a o h _ => h
  still := fun a h => h
  slot := fun i => by
    rcases sget_va (s := sget (slots0 N.length ds) i) rfl with ⟨d, h1, h2⟩ | h
    · rw [h2]
      obtain ⟨v, e1, rv⟩ := r.get h1
      exact ⟨v, start_gv e1, rv⟩
    · rw [h]; trivial
  sep := fun i j p _ o _ _ => by
    rcases sget_va (s := sget (slots0 N.length ds) i) rfl with ⟨d, h1, h2⟩ | h
    · rw [h2] at o; cases o
    · rw [h] at o; cases o
theorem takes_cxD {N : List Str} {qual : Str} {sc : Scope} {f : Addr} {cdv : Value} {A : Around} {outer : List Env} {s : Shared} {H : Hp} {E : XK} {W : WX} (h : ∀ cls d σ H, W cls d σ H → E cls d H) : Takes (cxD P w K mg base N qual sc f cdv A outer s H E) W :=
  (takes_of (X := cxD P w K mg base N qual sc f cdv A outer s H E) rfl rfl rfl rfl).imp h
/-- a def that is handed data -/
theorem fun_okP {x qual : Str} {st : Stmt} {f : Addr} {fd : FuncData} {N ps : List Str} {k : Nat} {spec : PSpec} {m : WD → MS} (F : Fun K x qual st f fd) (S : FnScope N ps (defScope st)) (hN : ps.length ≤ N.length) (len : ∀ ds Q E, spec ds Q E → ds.length = ps.length)
    (hbody : ∀ (cdv : Value) (A : Around) (outer : List Env) (s : Shared) (H : Hp) (E : XK) (C : Ct) (W : WD), C.isW = false → RoomG k (A.deeper (envOfC qual (defScope st) s.heap.objs.size f cdv)) →
      Takes (cxD P w K mg base N qual (defScope st) f cdv A outer s H E) (wD K C CN W) → PSs (cxD P w K mg base N qual (defScope st) f cdv A outer s H E) (defBody st) (tDS K C (m W)))
    (rd : ∀ ds Q E, spec ds Q E → m (fun c _ => E c) (endP Q) (slots0 N.length ds)) : FnG P w K mg base (k + 1) f fd ps (spP K CN spec) := by
  refine fun_okG F S (fun vs H Q E h => ?_) (fun cdv A outer s H vs Q E hr h => ?_)
  · obtain ⟨F0, ds, Qd, Ed, _, r, hs, _⟩ := h
    rw [r.length]; exact len _ _ _ hs
  · obtain ⟨F0, ds, Qd, Ed, e, r, hs, hq, he⟩ := h
    have R0 := rs_start (N := N) e r (by rw [len _ _ _ hs]; exact hN)
    have post : ∀ {F1 H1 : Hp} {σ : L2.St} {sd : DSt}, Rs K ⟨F0, H, fun _ => False, false⟩ F1 H1 σ sd → Post K F0 H F1 H1 := fun R => ⟨R.grow, R.ext, fun a o z => R.keep a o z (fun q => q), R.new⟩
    refine ⟨_, hbody cdv A outer s H E ⟨F0, H, fun _ => False, false⟩ (fun c _ => Ed c) rfl hr (takes_cxD fun cls d σ H' hw => ?_), F0, _, endP Qd, R0, ⟨fun F1 H1 σ sd _ R q => ?_, fun F1 H1 σ sd v r _ R rv own q => ?_, fun _ _ _ _ _ _ z => z.elim, fun _ _ _ _ _ _ z => z.elim⟩, rd ds Qd Ed hs⟩
    · obtain ⟨c, a, F1, sd, hc, rfl, rfl, R, q⟩ := hw
      exact he c a H' F1 hc (post R) q
    · exact hq .non H1 F1 (.va .none) (post R) .non q
    · refine hq v H1 F1 r (post R) ?_ q
      cases r with
      | no => trivial
      | va d => obtain ⟨v', e1, q⟩ := rv; cases e1; exact q
      | own ds' => obtain ⟨p, vs', e1, h1, h2, h3, h4⟩ := rv; cases e1; exact ⟨p, vs', rfl, h1, h2, h3, h4⟩
      | scr ns => obtain ⟨p, e1, h1⟩ := rv; cases e1; exact ⟨p, rfl, h1⟩
      | exc a => exact Option.some.inj rv
      | well n => obtain ⟨p, a, b, c, e1, h1, h2, h3, h4⟩ := rv; cases e1; exact ⟨p, a, b, c, rfl, h1, h2, own rfl p rfl, h4⟩
theorem rs_startW {F H : Hp} {N : List Str} {p : Addr} {vs : List V} {ds : List PyData} {n : Nat} {a b c : Int} (e : Same F H) (hF : F p = none) (hp : H p = some (.lst [.int a, .int b, .int c])) (hw : WellOk n a b c) (r : RpA K F vs ds) (hl : ds.length + 1 ≤ N.length) :
    Rs K ⟨F, H, fun q => q = p, true⟩ F H (L2.start N (.ref p :: vs)) (slotsW N.length n ds) where
  len := by unfold L2.start slotsW slots0; simp [r.length]; omega
  grow := Same.refl _
  ext := e
  new := fun a o h => .inl h
  keep := fun a o h _ => h
  still := fun a h => h
  slot := fun i => by
    cases i with
    | zero => exact ⟨p, a, b, c, rfl, hp, hF, .inl ⟨rfl, rfl⟩, hw⟩
    | succ i =>
      show SlotOk K _ F H _ (sget (slots0 (N.length - 1) ds) i)
      rcases sget_va (s := sget (slots0 (N.length - 1) ds) i) rfl with ⟨d, h1, h2⟩ | h
      · rw [h2]
        obtain ⟨v, e1, rv⟩ := r.get h1
        exact ⟨v, start_gv (i := i + 1) (by simpa using e1), rv⟩
      · rw [h]; trivial
  sep := fun i j q hij o1 o2 => by
    have z : ∀ k, isOwn (sget (slotsW N.length n ds) k) = true → k = 0 := fun k o => by
      cases k with
      | zero => rfl
      | succ k =>
        have o : isOwn (sget (slots0 (N.length - 1) ds) k) = true := o
        rcases sget_va (s := sget (slots0 (N.length - 1) ds) k) rfl with ⟨d, h1, h2⟩ | h
        · rw [h2] at o; cases o
        · rw [h] at o; cases o
    exact absurd ((z i o1).trans (z j o2).symm) hij
theorem fun_okW {x qual : Str} {st : Stmt} {f : Addr} {fd : FuncData} {N ps : List Str} {k : Nat} {spec : WSpec} {m : MS} (F : Fun K x qual st f fd) (S : FnScope N ps (defScope st)) (hN : ps.length ≤ N.length) (len : ∀ n ds Q, spec n ds Q → ds.length + 1 = ps.length)
    (hbody : ∀ (cdv : Value) (A : Around) (outer : List Env) (s : Shared) (H : Hp) (E : XK) (C : Ct), RoomG k (A.deeper (envOfC qual (defScope st) s.heap.objs.size f cdv)) →
      Takes (cxD P w K mg base N qual (defScope st) f cdv A outer s H E) (wD K C CN fun _ _ => False) → PSs (cxD P w K mg base N qual (defScope st) f cdv A outer s H E) (defBody st) (tDS K C m))
    (rd : ∀ n ds Q, spec n ds Q → m (endW Q) (slotsW N.length n ds)) : FnG P w K mg base (k + 1) f fd ps (spW K spec) := by
  refine fun_okG F S (fun vs H Q E h => ?_) (fun cdv A outer s H vs Q E hr h => ?_)
  · obtain ⟨F0, p, ws, n, a, b, c, ds, Qd, rfl, _, _, _, _, r, hs, _⟩ := h
    have := len _ _ _ hs
    have := r.length
    simp; omega
  · obtain ⟨F0, p, ws, n, a, b, c, ds, Qd, rfl, e, hF, hp, hw, r, hs, hq⟩ := h
    have R0 := rs_startW (N := N) e hF hp hw r (by rw [len _ _ _ hs]; exact hN)
    have post : ∀ {F1 H1 : Hp} {σ : L2.St} {sd : DSt} {n' : Nat}, Rs K ⟨F0, H, fun q => q = p, true⟩ F1 H1 σ sd → sget sd 0 = .well n' → PostW K p F0 H F1 H1 n' := fun {F1 H1 σ sd n'} R h0 => by
      have hs0 := R.slot 0
      rw [h0] at hs0
      obtain ⟨p', a', b', c', _, z2, _, z4, z5⟩ := hs0
      refine ⟨R.grow, R.ext, fun a o za z => R.keep a o z za, R.new, ?_⟩
      rcases z4 with z4 | z4
      · have : p' = p := z4.2
        subst this
        exact ⟨a', b', c', z2, z5⟩
      · cases z4.1
    refine ⟨_, hbody cdv A outer s H E ⟨F0, H, fun q => q = p, true⟩ hr (takes_cxD fun cls d σ H' hw => ?_), F0, _, endW Qd, R0, ⟨fun F1 H1 σ sd _ R q => ?_, fun F1 H1 σ sd v r _ R rv own q => ?_, fun _ _ _ _ _ _ z => z.elim, fun _ _ _ _ _ _ z => z.elim⟩, rd n ds Qd hs⟩
    · obtain ⟨c, a, F1, sd, hc, _, _, R, q⟩ := hw
      exact q.elim
    · obtain ⟨n', h0, q⟩ := q
      exact hq .non H1 F1 (.va .none) n' (post R h0) .non q
    · obtain ⟨n', h0, q⟩ := q
      refine hq v H1 F1 r n' (post R h0) ?_ q
      cases r with
      | no => trivial
      | va d => obtain ⟨v', e1, q⟩ := rv; cases e1; exact q
      | own ds' => obtain ⟨p, vs', e1, h1, h2, h3, h4⟩ := rv; cases e1; exact ⟨p, vs', rfl, h1, h2, h3, h4⟩
      | scr ns => obtain ⟨p, e1, h1⟩ := rv; cases e1; exact ⟨p, rfl, h1⟩
      | exc a => exact Option.some.inj rv
      | well n => obtain ⟨p, a, b, c, e1, h1, h2, h3, h4⟩ := rv; cases e1; exact ⟨p, a, b, c, rfl, h1, h2, own rfl p rfl, h4⟩
end
section
variable {K : PySem.W.Frag} {X : Cx} {C : Ct}
theorem pmk_own0 {c : Addr} {bmB : List Value} {B newId initId : String} {x : Str} {p pos : Pos} (F : ExcBaseFacts B newId initId bmB) (q : PySem.W.excIn X.K c bmB newId = true) (gC : X.mg x = some (.ref c)) (kC : PySem.W.keepIn X.K (.ref c) = true) (r : Raises X (.ref c)) (hg : Gl X x)
    (hdb : (x == ("__debug__" : Str)) = false := by decide) : PMk X (.Call (.Name x p) [] [] pos) (fun _ H Q => Q (.ref c) none H) := by
  intro pins s σ H Q I h
  refine wpAny_Call_Name_kw (ld_glob I hg gC (PySem.W.callWith_K0 I.kIn kC ?_) hdb)
  obtain ⟨bm, N, nm, qn, bs, hdct, sn, sub, ab, col, dd, k0, k1, k2, k3, k5, mN, hC, hN, hni, T⟩ := exc_obj I.kIn q
  obtain ⟨hp, g, d, t, os⟩ := s
  exact wpAny_call_exc_subT F T hC hN hni (fun h' e hm => mk_of I hm r h (I.hok.gone hm.new)) (Nat.zero_le _)
/-- what the written part says of an own error class over ValueError -/
structure ExcCls (K : PySem.W.Frag) (mg : Str → Option Value) (x : Str) (c : Addr) : Prop where
  gC : mg x = some (.ref c)
  q : PySem.W.excIn K c [.type "ValueError", .type "Exception", .type "BaseException", .type "object"] "ValueError.__new__" = true
  kC : PySem.W.keepIn K (.ref c) = true
  b : PySem.W.subIn K (.ref c) (.type "BaseException") = some true
  t : PySem.W.typeIn K (.ref c) = some (.type "type")
theorem pds_raise {CN : String → Option Addr} {W : WD} {cn : String} {x : Str} {c : Addr} {p pos pos2 : Pos} (hc : X.calm = true) (tk : Takes X (wD X.K C CN W)) (T : ExcCls X.K X.mg x c) (hn : CN cn = some c) (hg : Gl X x := by rfl) (hdb : (x == ("__debug__" : Str)) = false := by decide) :
    PS X (.Raise (some (.Call (.Name x p) [] [] pos)) none pos2) (tDS X.K C (mRaise cn W)) := ps_imp (ps_raise hc tk (pmk_own0 PySem.F.excBase_ValueError T.q T.gC T.kC (raises_own T.b T.t) hg hdb)) (by
  rintro D σ H ⟨F, sd, Dd, R, E, h⟩
  exact ⟨cn, c, F, sd, hn, rfl, rfl, R, h⟩)
end
end DL
namespace DL
open PySem PySem.Spec PyProof.Rows L2
mutual
/-- every dict in it is empty -/
def dE : PyData → Bool
  | .none | .bool _ | .int _ | .str _ => true
  | .list xs => dEs xs
  | .tuple xs => dEs xs
  | .dict kvs => kvs.isEmpty
def dEs : List PyData → Bool
  | [] => true
  | x :: xs => dE x && dEs xs
end
mutual
def noL : PyData → Bool
  | .none | .bool _ | .int _ | .str _ => true
  | .list _ => false
  | .tuple xs => noLs xs
  | .dict kvs => kvs.isEmpty
def noLs : List PyData → Bool
  | [] => true
  | x :: xs => noL x && noLs xs
end
def reprOk (d : PyData) : Bool := dE d && (!d.hasDict || noL d) && d.showable && decide (d.shown.length ≤ 1000000) && decide (d.depth ≤ 64)
def bRepr : List PyData → Option PyData
  | [d] => if reprOk d = true then some (.str d.shown) else none
  | _ => none
section
variable {X : Cx} {pins : List (Addr × Obj)} {σ : L2.St} {H : Hp} {s : Shared} {K : PySem.W.Frag}
mutual
theorem Rp.reads (I : Inv X pins σ H s) {F : Hp} (e : Same F H) : ∀ (d : PyData) (v : V) (u : Value), Rp X.K F v d → RelV v u → dE d = true → ∃ as, Reads s.heap u d as ∧ (noL d = true → sysModules ∉ as)
  | .none, _, _, h, r, _ => by cases h; cases r; exact ⟨_, .none, fun _ z => nomatch z⟩
  | .bool b, _, _, h, r, _ => by cases h; cases r; exact ⟨_, .bool b, fun _ z => nomatch z⟩
  | .int i, _, _, h, r, _ => by cases h; obtain ⟨t, rfl⟩ := r; exact ⟨_, .int i t, fun _ z => nomatch z⟩
  | .str x, _, _, h, r, _ => by cases h; obtain ⟨t, rfl⟩ := r; exact ⟨_, .str x t, fun _ z => nomatch z⟩
  | .list ds, _, _, h, r, hd => by
    cases h with
    | lst hs ha =>
      cases r
      obtain ⟨z, its, n, rv, e1⟩ := I.hok _ _ (e _ _ hs)
      obtain ⟨as, hr, _⟩ := RpA.reads I e ds _ its ha rv (by simpa [dE] using hd)
      exact ⟨_, .list e1 rfl rfl hr, fun z => by simp [noL] at z⟩
  | .tuple ds, _, _, h, r, hd => by
    cases h with
    | tup hs ha =>
      cases r
      obtain ⟨its, rv, ⟨o, ho, hc, n, hdt⟩, _⟩ := I.tuple (same_t e hs)
      obtain ⟨as, hr, hn⟩ := RpA.reads I e ds _ its ha rv (by simpa [dE] using hd)
      exact ⟨_, .tuple ho hc hdt hr, fun z => hn (by simpa [noL] using z)⟩
  | .dict es, _, _, h, r, hd => by
    cases h with
    | dct hs ha =>
      cases r
      have he : es = [] := by simpa [dE] using hd
      subst he
      cases ha
      obtain ⟨z, y, vs, rv, o, es', ep, h1, h2, h3, h4, h5, h6⟩ := I.hok _ _ (e _ _ hs)
      cases rv
      have h7 : es'.toList = [] := by
        cases q : es'.toList with
        | nil => rfl
        | cons a l => rw [q] at h5; cases h5
      exact ⟨_, .dict h1 h2.1 h3 (by rw [h7]; exact .nil) (by rw [h7]; exact .nil), fun _ hm => by
        simp at hm
        rw [hm] at y
        simp at y⟩
theorem RpA.reads (I : Inv X pins σ H s) {F : Hp} (e : Same F H) : ∀ (ds : List PyData) (vs : List V) (us : List Value), RpA X.K F vs ds → Vals vs us → dEs ds = true → ∃ as, ReadsAll s.heap us ds as ∧ (noLs ds = true → sysModules ∉ as)
  | [], _, _, h, r, _ => by cases h; cases r; exact ⟨_, .nil, fun _ z => nomatch z⟩
  | d :: ds, _, _, h, r, hd => by
    have hd' : dE d = true ∧ dEs ds = true := by simpa [dEs] using hd
    cases h with
    | cons h1 h2 =>
      cases r with
      | cons r1 r2 =>
        obtain ⟨as, q1, n1⟩ := Rp.reads I e d _ _ h1 r1 hd'.1
        obtain ⟨bs, q2, n2⟩ := RpA.reads I e ds _ _ h2 r2 hd'.2
        refine ⟨_, .cons q1 q2, fun z hm => ?_⟩
        have z' : noL d = true ∧ noLs ds = true := by simpa [noLs] using z
        rcases List.mem_append.mp hm with hm | hm
        · exact n1 z'.1 hm
        · exact n2 z'.2 hm
end
def rRepr (K : PySem.W.Frag) : List V → Hp → VK → Prop := fun xs H Q => ∃ x d F, xs = [x] ∧ Same F H ∧ Rp K F x d ∧ reprOk d = true ∧ Q (.str d.shown) H
theorem cr_repr {k : Nat} (hr : RoomG k X.A) : CallR X (.builtin "repr") (rRepr X.K) := by
  intro pins s σ H xs us Q I r h
  obtain ⟨x, d, F, rfl, e, rp, ok, q⟩ := h
  obtain ⟨u, rfl, ru⟩ := vals1 r
  unfold reprOk at ok
  simp only [Bool.and_eq_true, Bool.or_eq_true, Bool.not_eq_true', decide_eq_true_eq] at ok
  obtain ⟨⟨⟨⟨o1, o2⟩, o3⟩, o4⟩, o5⟩ := ok
  have hl : d.shown.length ≤ sizeLine := Nat.le_trans o4 (by decide)
  have hun := hr.r.un
  obtain ⟨as, rd, na⟩ := Rp.reads I e d x u rp ru o1
  have hd : d.hasDict = true → sysModules ∉ as := fun z => o2.elim (fun w => by rw [w] at z; cases z) na
  have big : ∀ {a : Addr}, u = .ref a → wpAny (model X.prog X.w) X.A (call (.builtin "repr") [u]) (EP X pins σ Q) X.xe s := fun {a} eu => by
    subst eu
    exact repr_of_reads' rd o3 hd hr.g (by omega) (fun _ _ z => z) (fun h' u' tk hk => ⟨.str _, H, I.kept (t' := tk) hk, ⟨_, rfl⟩, q⟩) hl
  cases rp with
  | non => cases ru; exact PySem.P.repr_of_none ⟨.str _, H, I.tok _, ⟨_, rfl⟩, q⟩
  | bl b => cases ru; exact PySem.P.repr_of_bool ⟨.str _, H, I.tok _, ⟨_, rfl⟩, by cases b <;> exact q⟩
  | int i => obtain ⟨t, rfl⟩ := ru; exact PySem.P.repr_of_int (by simpa [PyData.showable] using o3) ⟨.str _, H, I.tok _, ⟨_, rfl⟩, q⟩
  | str z => obtain ⟨t, rfl⟩ := ru; exact PySem.P.repr_of_str ⟨.str _, H, I.tok _, ⟨_, rfl⟩, q⟩ (by simpa only [PyData.shown] using hl)
  | lst _ _ => exact big ru
  | tup _ _ => exact big ru
  | dct _ _ => exact big ru
theorem rc_repr {K : PySem.W.Frag} : RLC K (rRepr K) bRepr := by
  intro F H xs as z Q e _ rx h k
  unfold bRepr at h
  split at h
  · obtain ⟨x, rfl, r⟩ := rpA1 rx
    split at h
    · rename_i ok
      cases h
      exact ⟨x, _, F, rfl, e, r, ok, k _ F H .id (.str _)⟩
    · cases h
  · cases h
theorem pd_dict0 {C : Ct} {pos : Pos} : PE X (.Dict [] [] pos) (tD X.K C mDict0) := pe_imp pe_dnewK (by
  rintro σ H Q ⟨F, sd, Qd, R, h, k⟩ p hp
  exact k (.ref p) _ _ _ sd (R.al (.new hp)) (.al R (.new hp)) (.dct upd_same .nil) h)
end
end DL
namespace DL
open PySem PySem.Spec PyProof.Rows L2
section
variable {K : PySem.W.Frag} {X : Cx} {C : Ct}
structure RsA (K : PySem.W.Frag) (C : Ct) (F H H0 : Hp) (σ : L2.St) (sd : DSt) (vs : List V) (rs : List S) : Prop where
  len : vs.length = rs.length
  ok : ∀ (i : Nat) (v : V) (r : S), vs[i]? = some v → rs[i]? = some r → RvOk K C F H v r ∧ Fre σ sd v r ∧ (isOwn r = true → ∀ q, v = .ref q → H0 q = none)
  ne : ∀ (i j : Nat) (v w : V) (r u : S), i < j → vs[i]? = some v → vs[j]? = some w → rs[i]? = some r → rs[j]? = some u → isOwn r = true → isOwn u = true → v ≠ w
def tDAR (K : PySem.W.Frag) (C : Ct) (ms : List MR) : TA := fun σ H Q => ∃ F sd Qd, Rs K C F H σ sd ∧ mrs ms sd Qd ∧ ∀ vs H' F' rs sd', Rs K C F' H' σ sd' → Stp σ sd F H F' H' sd' → RsA K C F' H' H σ sd' vs rs → Qd rs sd' → Q vs H'
theorem pdar_nil : PA X [] (tDAR X.K C []) := pa_imp pa_nil (by
  rintro σ H Q ⟨F, sd, Qd, R, h, k⟩
  exact k [] H F [] sd R .refl ⟨rfl, fun i v r h => by simp at h, fun i j v w r u _ h => by simp at h⟩ h)
theorem rv_step {F H F' H' : Hp} {σ : L2.St} {sd sd' : DSt} {v : V} {r : S} (h : RvOk K C F H v r) (fre : Fre σ sd v r) (S : Stp σ sd F H F' H' sd') : RvOk K C F' H' v r ∧ Fre σ sd' v r := by
  refine ⟨SlotOk.grow S.fr (fun q o ho e eh en => ?_) h, fun o q e z => fre o q e (S.ow q z)⟩
  cases e
  have nq := fre ho q rfl
  refine ⟨S.kp q o eh nq, ?_⟩
  cases z : F' q with
  | none => rfl
  | some y =>
    rcases S.nw q y z with z | z | z
    · rw [en] at z; cases z
    · rw [eh] at z; cases z
    · exact (nq z).elim
theorem pdar_cons {e : Expr} {es : List Expr} {m : MR} {ms : List MR} (he : PE X e (tDR X.K C m)) (hr : PA X es (tDAR X.K C ms)) (hs : starEach (e :: es) X.env = (false, eval e X.env) :: starEach es X.env := by rfl) : PA X (e :: es) (tDAR X.K C (m :: ms)) :=
  pa_imp (pa_cons he hr hs) (by
  rintro σ H Q ⟨F, sd, Qd, R, h, k⟩
  refine ⟨F, sd, _, R, h, fun v H1 F1 r sd1 R1 S1 rv fre new h1 => ⟨F1, sd1, _, R1, h1, fun ws H2 F2 us sd2 R2 S2 A h2 => ?_⟩⟩
  obtain ⟨rv2, fre2⟩ := rv_step rv fre S2
  refine k (v :: ws) H2 F2 (r :: us) sd2 R2 (S1.trans S2) ⟨by simp [A.len], fun i v' r' e1 e2 => ?_, fun i j v' w' r' u' hij e1 e2 e3 e4 o1 o2 => ?_⟩ h2
  · cases i with
    | zero => cases e1; cases e2; exact ⟨rv2, fre2, new⟩
    | succ i =>
      obtain ⟨a, b, c⟩ := A.ok i v' r' (by simpa using e1) (by simpa using e2)
      exact ⟨a, b, fun o q e => S1.st q (c o q e)⟩
  · cases j with
    | zero => omega
    | succ j =>
      cases i with
      | succ i => exact A.ne i j v' w' r' u' (by omega) (by simpa using e1) (by simpa using e2) (by simpa using e3) (by simpa using e4) o1 o2
      | zero =>
        cases e1; cases e3
        intro z
        subst z
        obtain ⟨a, b, c⟩ := A.ok j _ u' (by simpa using e2) (by simpa using e4)
        -- what is owned in u' is new behind the first
        have hv : ∃ q o, v = .ref q ∧ H1 q = some o := by
          cases r with
          | no => cases o1
          | va d => cases o1
          | scr d => cases o1
          | exc d => cases o1
          | own ds => obtain ⟨q, vs, e, h1, _⟩ := rv; cases e; exact ⟨q, _, rfl, h1⟩
          | well n => obtain ⟨q, x, y, z, e, h1, _⟩ := rv; cases e; exact ⟨q, _, rfl, h1⟩
        obtain ⟨q, o, e, hq⟩ := hv
        have := c o2 q e
        rw [hq] at this; cases this)
theorem rsA_tail {F H H0 : Hp} {σ : L2.St} {sd : DSt} {v : V} {r : S} {vs : List V} {rs : List S} {i : Nat} (A : RsA K C F H H0 σ sd (v :: vs) (r :: rs)) : RsA K C F H H0 (σ.set i (some v)) (sset sd i r) vs rs := by
  refine ⟨by simpa using A.len, fun j w u e1 e2 => ?_, fun a b v' w' r' u' hab e1 e2 e3 e4 o1 o2 => A.ne (a + 1) (b + 1) v' w' r' u' (by omega) (by simpa using e1) (by simpa using e2) (by simpa using e3) (by simpa using e4) o1 o2⟩
  obtain ⟨x1, x2, x3⟩ := A.ok (j + 1) w u (by simpa using e1) (by simpa using e2)
  refine ⟨x1, fun o q e z => ?_, x3⟩
  obtain ⟨k, ok, ek⟩ := z
  by_cases hk : k = i
  · subst hk
    have own_r : isOwn r = true ∧ v = .ref q := by
      by_cases hl : k < sd.length
      · rw [sget_sset hl] at ok
        refine ⟨ok, ?_⟩
        by_cases hσ : k < σ.length
        · rw [gv_set hσ] at ek; exact Option.some.inj ek
        · have : gv (σ.set k (some v)) k = none := by
            unfold gv
            rw [List.getElem?_eq_none (by rw [List.length_set]; omega)]
            rfl
          rw [this] at ek; cases ek
      · rw [sget_out (by rw [sset_length]; omega)] at ok; cases ok
    exact A.ne 0 (j + 1) v w r u (by omega) rfl (by simpa using e1) rfl (by simpa using e2) own_r.1 o (own_r.2.trans e.symm)
  · rw [sget_sset_ne hk] at ok
    rw [gv_set_ne hk] at ek
    exact x2 o q e ⟨k, ok, ek⟩
theorem rsA_sets {F H H0 : Hp} : ∀ {is : List Nat} {vs : List V} {rs : List S} {σ : L2.St} {sd : DSt}, Rs K C F H σ sd → RsA K C F H H0 σ sd vs rs → Rs K C F H ((is.zip vs).foldl (fun σ p => σ.set p.1 (some p.2)) σ) (ssets sd is rs)
  | [], _, _, _, _, R, _ => by simpa [ssets] using R
  | i :: is, [], rs, σ, sd, R, A => by
    have : rs = [] := by
      have := A.len
      cases rs with
      | nil => rfl
      | cons a l => simp at this
    subst this
    simpa [ssets] using R
  | i :: is, v :: vs, [], σ, sd, R, A => by have := A.len; simp at this
  | i :: is, v :: vs, r :: rs, σ, sd, R, A => by
    obtain ⟨x1, x2, _⟩ := A.ok 0 v r rfl rfl
    exact rsA_sets (σ := σ.set i (some v)) (sd := sset sd i r) (R.setr x1 x2) (rsA_tail A)
def tPar2 (i j : Nat) (ta : TA) : TS := fun D σ H => ta σ H fun vs H1 => ∃ u v, vs = [u, v] ∧ D.nx ((σ.set i (some u)).set j (some v)) H1
theorem ps_par2 {i j : Nat} {x y : Str} {a b : Expr} {ta : TA} {px py pt pos : Pos} {kt k2 pt2} (hc : X.calm = true) (hN : X.N.Nodup) (hi : X.N[i]? = some x) (hj : X.N[j]? = some y) (hij : i ≠ j)
    (hx : X.env.scope.names.lookup x = some .local) (hy : X.env.scope.names.lookup y = some .local) (ha : PA X [a, b] ta)
    (hw : swappedStores [.Tuple [.Name x px, .Name y py] kt pt] (.Tuple [a, b] k2 pt2) X.env = pure (some [x, y])) (hs : swapsWithSole [.Tuple [.Name x px, .Name y py] kt pt] (.Tuple [a, b] k2 pt2) pos.line X.env = pure false := by rfl) :
    PS X (.Assign [.Tuple [.Name x px, .Name y py] kt pt] (.Tuple [a, b] k2 pt2) pos) (tPar2 i j ta) := by
  refine ⟨fun pins s σ H D I h => ?_⟩
  rw [exec_Assign_arm]
  refine wpAny_bind (wpAny_standAt ?_)
  rw [hs]
  refine wpAny_bind (wpAny_pure ?_)
  rw [if_neg (by decide)]
  refine wpAny_bind (Tuple_ (thn (ha.run _ pins s σ H _ I h) fun us s1 hh => ?_))
  obtain ⟨vs, H1, I1, r1, v1, v2, rfl, q1⟩ := hh
  obtain ⟨u1, u2, rfl, ra, rb⟩ := vals2 r1
  refine wpAny_newObj_type ?_ (by show 2 ≤ sizeLine; decide)
  have I2 : Inv X pins σ H1 { s1 with heap := s1.heap.push { cls := .type "tuple", data := .seq [u1, u2].toArray }, toks := s1.toks } := I1.kept fun _ _ e => Heap.get?_push_of_some _ e
  rw [hw]
  refine wpAny_bind (wpAny_pure ?_)
  show wpAny (model X.prog X.w) X.A (do rule "assign.swapped-stores"; let got ← unpackItems (.ref s1.heap.objs.size) 2 none; assignInOrder [fun v => bindName X.env y v, fun v => bindName X.env x v] got.reverse; pure Flow.next) _ _ _
  refine wpAny_bind (wpAny_rule (wpAny_bind (unpackItems_tuple (items := #[u1, u2]) (I.ok.hd hc) (IsTup.new s1.heap _) fun h' hx' => ?_)))
  have I3 := I2.kept (h' := h') (t' := s1.toks) fun b o e => hx' b o (Nat.ne_of_lt (Heap.lt_size e)) e
  show wpAny _ _ (assignInOrder [fun v => bindName X.env y v, fun v => bindName X.env x v] [u2, u1] >>= fun _ => pure Flow.next) _ _ _
  refine wpAny_bind (assignInOrder_cons (wpAny_bindName (store_ok I3 hN hj (.inl hy) rb (fun s2 I4 => assignInOrder_cons (wpAny_bindName (store_ok I4 hN hi (.inl hx) ra (fun s3 I5 => assignInOrder_nil (wpAny_pure ?_)) (.inr hx)))) (.inr hy))))
  rw [List.set_comm _ _ (Ne.symm hij)] at I5
  exact ⟨_, H1, I5, q1⟩
theorem pds_par2 {tg e : Expr} {pos : Pos} {i j : Nat} {m1 m2 : MR} (t : PS X (.Assign [tg] e pos) (tPar2 i j (tDAR X.K C [m1, m2]))) : PS X (.Assign [tg] e pos) (tDS X.K C (mAsgM [i, j] [m1, m2])) := ps_imp t (by
  rintro D σ H ⟨F, sd, Dd, R, E, h⟩
  refine ⟨F, sd, _, R, h, fun vs H1 F1 rs sd1 R1 S1 A q => ?_⟩
  obtain ⟨ql, q⟩ := q
  have hl := A.len
  obtain ⟨r1, r2, rfl⟩ : ∃ r1 r2, rs = [r1, r2] := by
    match rs, ql with
    | [r1, r2], _ => exact ⟨r1, r2, rfl⟩
  obtain ⟨u, v, rfl⟩ : ∃ u v, vs = [u, v] := by
    match vs, hl with
    | [u, v], _ => exact ⟨u, v, rfl⟩
  exact ⟨u, v, rfl, E.nx F1 H1 _ _ S1.fr (rsA_sets (is := [i, j]) R1 A) q⟩)
theorem pds_par3 {tg e : Expr} {pos : Pos} {i j l : Nat} {m1 m2 m3 : MR} (t : PS X (.Assign [tg] e pos) (tPar3 i j l (tDAR X.K C [m1, m2, m3]))) : PS X (.Assign [tg] e pos) (tDS X.K C (mAsgM [i, j, l] [m1, m2, m3])) := ps_imp t (by
  rintro D σ H ⟨F, sd, Dd, R, E, h⟩
  refine ⟨F, sd, _, R, h, fun vs H1 F1 rs sd1 R1 S1 A q => ?_⟩
  obtain ⟨ql, q⟩ := q
  have hl := A.len
  obtain ⟨r1, r2, r3, rfl⟩ : ∃ r1 r2 r3, rs = [r1, r2, r3] := by
    match rs, ql with
    | [r1, r2, r3], _ => exact ⟨r1, r2, r3, rfl⟩
  obtain ⟨u, v, w, rfl⟩ : ∃ u v w, vs = [u, v, w] := by
    match vs, hl with
    | [u, v, w], _ => exact ⟨u, v, w, rfl⟩
  exact ⟨u, v, w, rfl, E.nx F1 H1 _ _ S1.fr (rsA_sets (is := [i, j, l]) R1 A) q⟩)
theorem pdt_chain {op op'} {r r' : R2} {f g : PyData → PyData → Option PyData} {a b c : Expr} {ma mb mc : ME} {pos : Pos} (L : RL2 X.K r f) (L' : RL2 X.K r' g)
    (t : PT X (.Compare a [op, op'] [b, c] pos) (tTest (tChain r r' (tD X.K C ma) (tD X.K C mb) (tD X.K C mc)))) : PT X (.Compare a [op, op'] [b, c] pos) (tDT X.K C (mT (mChain f g ma mb mc))) := pt_imp t (by
  refine td_test (te := tChain r r' (tD X.K C ma) (tD X.K C mb) (tD X.K C mc)) ?_
  rintro σ H Q ⟨F, sd, Qd, R, h, k⟩
  refine ⟨F, sd, _, R, h, fun x H1 F1 a sd1 R1 S1 rx h1 => ⟨F1, sd1, _, R1, h1, fun y H2 F2 b sd2 R2 S2 ry h2 => ?_⟩⟩
  obtain ⟨cc, e, q⟩ := h2
  refine L F2 H2 x y a b (.bool cc) _ R2.ext (fun p => R2.free) (rx.mono S2.fr) ry e fun v F' H' al rz => ?_
  cases rz
  refine ⟨cc, rfl, ?_⟩
  have S' := (S1.trans S2).trans (.al R2 al)
  cases cc with
  | true =>
    refine ⟨F', sd2, _, R2.al al, q, fun w H3 F3 d sd3 R3 S3 rw_ h3 => ?_⟩
    obtain ⟨z2, e2, q2⟩ := h3
    exact L' F3 H3 y w b d z2 _ R3.ext (fun p => R3.free) (ry.mono ((Stp.al R2 al).fr.trans S3.fr)) rw_ e2 fun v F4 H4 al2 rz2 => k v H4 F4 z2 sd3 (R3.al al2) ((S'.trans S3).trans (.al R3 al2)) rz2 q2
  | false => exact k (.bl false) H' F' _ sd2 (R2.al al) S' (.bl false) q)
theorem pd_lenScr {i : Nat} {x y : Str} {p p2 pos : Pos} (hm : X.mg "len" = none) (hN : X.N[i]? = some y) (hv : Vis X.env.scope y) (hd : (y == ("__debug__" : Str)) = false := by decide) (hcd : (y == ("__classdict__" : Str)) = false := by decide) (hg : Gl X "len" := by rfl)
    (he : starEach (.Name y p2 :: []) X.env = (false, eval (.Name y p2) X.env) :: starEach [] X.env := by rfl) (hpl : (backTo pos (starEach [] X.env)).any (·.1) = false := by rfl) :
    PE X (.Call (.Name "len" p) [.Name y p2] [] pos) (tD X.K C (mLenScr i)) := pe_imp (pe_callB call_len_seq hg hm (by decide +kernel) (pa_cons (pe_var hN hv hd hcd) pa_nil he) (by decide) (by decide) he hpl) (by
  rintro σ H Q ⟨F, sd, Qd, R, ⟨ns, hs, h⟩, k⟩
  have hi := R.slot i
  rw [hs] at hi
  obtain ⟨p, e1, e2⟩ := hi
  refine ⟨.ref p, gv_some.mp e1, p, _, rfl, .inl (R.ext.seq e2), ?_⟩
  rw [List.length_map]
  exact k _ H F _ sd R .refl (.int _) h)
theorem pd_lenOwn {i : Nat} {y : Str} {p p2 pos : Pos} (hm : X.mg "len" = none) (hN : X.N[i]? = some y) (hv : Vis X.env.scope y) (hd : (y == ("__debug__" : Str)) = false := by decide) (hcd : (y == ("__classdict__" : Str)) = false := by decide) (hg : Gl X "len" := by rfl)
    (he : starEach (.Name y p2 :: []) X.env = (false, eval (.Name y p2) X.env) :: starEach [] X.env := by rfl) (hpl : (backTo pos (starEach [] X.env)).any (·.1) = false := by rfl) :
    PE X (.Call (.Name "len" p) [.Name y p2] [] pos) (tD X.K C (mLenOwn i)) := pe_imp (pe_callB call_len_seq hg hm (by decide +kernel) (pa_cons (pe_var hN hv hd hcd) pa_nil he) (by decide) (by decide) he hpl) (by
  rintro σ H Q ⟨F, sd, Qd, R, ⟨ds, hs, h⟩, k⟩
  have hi := R.slot i
  rw [hs] at hi
  obtain ⟨p, vs, e1, e2, e3, e4, r⟩ := hi
  refine ⟨.ref p, gv_some.mp e1, p, _, rfl, .inl (.inl (.inl e2)), ?_⟩
  rw [r.length]
  exact k _ H F _ sd R .refl (.int _) h)
end
end DL
namespace DL
open PySem PySem.Spec PyProof.Rows L2
/-- what a law's def promises: handed a script, it returns True -/
def spL (K : PySem.W.Frag) : Sp := fun vs H Q _ => ∃ (a : Addr) (ns : List Int), vs = [.ref a] ∧ SqL K H a (ns.map V.int) ∧ ns.length ≤ 63 ∧ (∀ z ∈ ns, Builtin.Int.intBits z ≤ 1048576) ∧ ∀ H', Q (.bl true) H'
section
variable {P : Program} {w : World} {K : PySem.W.Frag} {mg : Str → Option Value} {base : Heap} {CN : String → Option Addr}
theorem fun_okL {x qual s0 : Str} {st : Stmt} {f : Addr} {fd : FuncData} {N : List Str} {k : Nat} {m : MS} (F : Fun K x qual st f fd) (SC : FnScope N [s0] (defScope st)) (hN : 1 ≤ N.length)
    (hbody : ∀ (cdv : Value) (A : Around) (outer : List Env) (s : Shared) (H : Hp) (E : XK) (C : Ct), C.isW = false → RoomG k (A.deeper (envOfC qual (defScope st) s.heap.objs.size f cdv)) →
      Takes (cxD P w K mg base N qual (defScope st) f cdv A outer s H E) (wD K C CN fun _ _ => False) → PSs (cxD P w K mg base N qual (defScope st) f cdv A outer s H E) (defBody st) (tDS K C m))
    (rd : ∀ ns : List Int, ns.length ≤ 63 → (∀ z ∈ ns, Builtin.Int.intBits z ≤ 1048576) → m endL (.scr ns :: List.replicate (N.length - 1) .no)) : FnG P w K mg base (k + 1) f fd [s0] (spL K) := by
  refine fun_okG F SC (fun vs H Q E h => ?_) (fun cdv A outer s H vs Q E hr h => ?_)
  · obtain ⟨a, ns, rfl, _⟩ := h; rfl
  · obtain ⟨a, ns, rfl, hS, hl, hb, hq⟩ := h
    have no : ∀ (k i : Nat), sget (List.replicate k S.no) i = .no := by
      intro k
      induction k with
      | zero => intro _; rfl
      | succ k ih => intro i; cases i with
        | zero => rfl
        | succ i => exact ih i
    have own : ∀ i, isOwn (sget (S.scr ns :: List.replicate (N.length - 1) S.no) i) = false := fun i => by
      cases i with
      | zero => rfl
      | succ i => show isOwn (sget (List.replicate (N.length - 1) S.no) i) = false; rw [no]; rfl
    have R0 : Rs K ⟨H, H, fun _ => False, false⟩ H H (L2.start N [.ref a]) (.scr ns :: List.replicate (N.length - 1) .no) := by
      refine ⟨?_, Same.refl _, Same.refl _, fun a o h => .inl h, fun a o h _ => h, fun a h => h, fun i => ?_, fun i j p _ o => ?_⟩
      · unfold L2.start; simp
      · cases i with
        | zero => exact ⟨a, rfl, hS⟩
        | succ i => show SlotOk K _ H H _ (sget (List.replicate (N.length - 1) S.no) i); rw [no]; trivial
      · rw [own] at o; cases o
    refine ⟨_, hbody cdv A outer s H E ⟨H, H, fun _ => False, false⟩ rfl hr (takes_cxD fun cls d σ H' hw => ?_), H, _, endL, R0, ⟨fun F1 H1 σ sd _ R q => q.elim, fun F1 H1 σ sd v r _ R rv _ q => ?_, fun _ _ _ _ _ _ z => z.elim, fun _ _ _ _ _ _ z => z.elim⟩, rd ns hl hb⟩
    · obtain ⟨c, a, F1, sd, hc, _, _, R, q⟩ := hw
      exact q.elim
    · have q : r = .va (.bool true) := q
      subst q
      obtain ⟨v', e1, q⟩ := rv
      cases e1
      cases q
      exact hq H1
/-- the promise at the heap behind the top -/
theorem end_call {mb : Str → Option Value} {k : Nat} {fa a : Addr} {fd : FuncData} {x : Str} {s₁ : Shared} {vs : List Value} {ns : List Int} (KX : K.In s₁.heap) (hns : s₁.heap.Ns mainGlobals mg) (hb : s₁.heap.Ns builtinsNs mb)
    (hbb : ∀ x : Str, x ≠ "__name__" → mb x = bootBuiltins x) (hlim : s₁.heap.NoLimit) (hg : s₁.gens = #[]) (ha : s₁.heap.get? a = some { cls := .type "list", data := .seq vs.toArray }) (hi : IntsAre vs ns) (h63 : ns.length ≤ 63) (hbits : ∀ z ∈ ns, Builtin.Int.intBits z ≤ 1048576)
    (hr : RoomG k callerA) (F : ∀ base : Heap, K.In base → base.Ns mainGlobals mg → FnG P w K mg base k fa fd [x] (spL K)) (hbind : ∀ (s : Shared) (u : Value), BindsTo s fd ⟨[u], []⟩ [(x, u)]) :
    codeAny (model P w) callerA (.call (.ref fa) ⟨[.ref a], []⟩) (fun r s' => r = .ok (.ret (.bool true)) ∧ OldK s₁.heap s'.heap ∧ s'.os = s₁.os ∧ AllBare s'.gens) s₁ := by
  have rv := vals_ints hi
  have hl : ns.length ≤ sizeLine := Nat.le_trans h63 (by decide)
  -- the script alone may be tracked, and only if the written part does not have it
  let o₀ : Obj := { cls := .type "list", data := .seq vs.toArray }
  let H : Hp := fun b => if b = a ∧ K.lookup a = none then some (.frz o₀ (.lst (ns.map V.int))) else none
  have hH : ∀ {b u}, H b = some u → b = a ∧ K.lookup a = none ∧ u = .frz o₀ (.lst (ns.map V.int)) := fun {b u} e => by
    by_cases c : b = a ∧ K.lookup a = none
    · have e2 := (if_pos c).symm.trans e
      exact ⟨c.1, c.2, (Option.some.inj e2).symm⟩
    · have e2 := (if_neg c).symm.trans e
      cases e2
  have hS : SqL K H a (ns.map V.int) := by
    cases q : K.lookup a with
    | none => exact .inl (.inr ⟨o₀, if_pos ⟨rfl, q⟩⟩)
    | some o =>
      have e := (KX a o q).symm.trans ha
      cases e
      exact .inr ⟨o₀, vs.toArray, 0, q, rfl, rfl, rfl, by rw [List.size_toArray, hi.length]; exact hl, by simpa using rv⟩
  have hok : HOk P w H s₁.heap := fun b u e => by
    obtain ⟨rfl, _, rfl⟩ := hH e
    exact ⟨ha, by rw [List.length_map]; exact hl, vs, _, rv, ha⟩
  -- the heap without it
  have hid : ∀ {b : Addr} {o : Obj}, s₁.heap.get? b = some o → (b = a → o ≠ o₀ ∨ K.lookup a ≠ none) → (hidT s₁.heap H).get? b = some o := fun {b o} e n => hidT_get e (by
    cases q : H b with
    | none => rfl
    | some u =>
      obtain ⟨e1, e2, _⟩ := hH q
      rcases n e1 with z | z
      · subst e1; rw [ha] at e; exact absurd (Option.some.inj e).symm z
      · exact absurd e2 z)
  have names : ∀ {b : Addr} {m : Str → Option Value}, s₁.heap.Ns b m → (hidT s₁.heap H).Ns b m := fun {b m} h => by
    obtain ⟨o, es, ep, e, d, r⟩ := h
    refine ⟨o, es, ep, hid e fun _ => .inl fun z => ?_, d, r⟩
    subst z
    cases d
  have kin : K.In (hidT s₁.heap H) := fun b o e => hid (KX b o e) fun z => .inr (by subst z; rw [e]; exact fun q => nomatch q)
  have lim : (hidT s₁.heap H).NoLimit := by
    obtain ⟨mc, h1, h2⟩ := hlim
    exact ⟨mc, names h1, h2⟩
  have e0 : Env0 P w K mg (hidT s₁.heap H) callerA [] s₁ H := ⟨rfl, ⟨kin, names hns, ⟨mb, names hb, hbb⟩, lim⟩, fun b o e => of_hidT e, Nat.le_of_eq (hidT_size _ _), trivial, (fun b hb => nomatch hb), hok, .of_eq hg⟩
  refine codeAny_mono ((F _ kin (names hns)).run (H := H) (us := [.ref a]) (vs := [.ref a]) (Q := fun v _ => v = .bl true) (E := fun _ _ _ => False) hr e0 (hbind s₁ (.ref a)) (.cons rfl .nil) ⟨a, ns, rfl, hS, h63, hbits, fun _ => rfl⟩) fun r s' h => ?_
  cases r with
  | error e =>
    obtain ⟨_, _, _, _, _, _, _, _, _, _, _, _, z⟩ := h
    exact z.elim
  | ok fl =>
    cases fl with
    | next => exact h.elim
    | brk => exact h.elim
    | cont => exact h.elim
    | ret u =>
      obtain ⟨v, H', os, bare, un, hok', r', q⟩ := h
      have q : v = .bl true := q
      subst q
      have r' : u = Value.bool true := r'
      subst r'
      refine ⟨rfl, OldK.of_keep fun b o e => ?_, os, bare⟩
      cases q : H b with
      | none => exact un.keep b o e q (fun z => nomatch z) (fun z => nomatch z)
      | some u =>
        obtain ⟨rfl, h2, rfl⟩ := hH q
        have e2 := (hok' b _ (un.frzs b _ _ q)).1
        rw [ha] at e
        cases e
        exact e2
end
/-- the goal that k_head leaves, from the promise of the law's def -/
theorem end_law {l : PySem.W.OpenLaw} {k : Nat} {q : Program} {loose : List Str} {XP : (Str → Option Value) → Heap → Prop} {YP : World → Heap → Prop} {d : DefRec} {K : Params → PySem.W.Frag} {x : Str}
    (hn : l.most = some 63) (hdf : d.params.defaults = []) (hr : RoomG k callerA) (hY : ∀ (w : World) (h : Heap), YP w h → (K w.params).In h)
    (F : ∀ (w : World) (mg : Str → Option Value) (fa : Addr) (h : Heap), (K w.params).In h → h.Ns mainGlobals mg → mg d.name = some (.ref fa) →
      ∃ fd : FuncData, (∀ (s : Shared) (u : Value), BindsTo s fd ⟨[u], []⟩ [(x, u)]) ∧ ∀ base : Heap, (K w.params).In base → base.Ns mainGlobals mg → FnG l.prog w (K w.params) mg base k fa fd [x] (spL (K w.params))) :
    PySem.W.WalkO q loose XP YP l.row.toRowW d [] (fun f vs => PySem.call f vs) := by
  refine Att.attach_callB hn hdf fun w s₀ s₁ mg mb fa o pm cd doc a vs ns G Y ho hd hcd hmg hobj hints hlen hbits hg => ?_
  obtain ⟨fd, hb, hF⟩ := F w mg fa _ (hY w _ Y) G.T.g hmg
  exact end_call (hY w _ Y) G.T.g G.T.b G.T.builtins G.T.nolimit hg hobj hints hlen hbits hr hF hb
end DL
namespace DL
open PySem PySem.Spec PyProof.Rows L2
theorem RoomG.u64 {k : Nat} {A : Around} (h : RoomG k A) : A.units + 64 < cLine := by have := h.r.un; omega
section
variable {X : Cx} {C : Ct}
theorem dv (i : Nat) {x : Str} {pos : Pos} (hN : X.N[i]? = some x := by rfl) (hv : Vis X.env.scope x := by first | exact Or.inl rfl | exact Or.inr (Or.inl rfl) | exact Or.inr (Or.inr rfl)) (hd : (x == ("__debug__" : Str)) = false := by decide)
    (hcd : (x == ("__classdict__" : Str)) = false := by decide) : PE X (.Name x pos) (tD X.K C (mVar i)) := pd_var hN hv hd hcd
/-- a raise that cannot be -/
theorem takesF {K : PySem.W.Frag} {CN : String → Option Addr} : Takes X (wD K C CN wF) := takes0.imp fun cls d σ H h => by
  obtain ⟨_, _, _, _, _, _, _, _, q⟩ := h
  exact q.elim
theorem dg (i : Nat) {x : Str} {pos : Pos} (hN : X.N.Nodup) (hi : X.N[i]? = some x := by rfl) (hx : Loc X.env.scope x := by first | exact Or.inl rfl | exact Or.inr rfl) (hf : X.fn x = true ∨ X.env.scope.names.lookup x = some .local := by first | exact .inl rfl | exact .inr rfl) :
    PG X (.Name x pos) (tDG X.K C (mgName i)) := pdg_name hN hi hx hf
theorem gcons {e : Expr} {es : List Expr} {g : MG} {gs : MGs} (h1 : PG X e (tDG X.K C g)) (h2 : PGs X es (tDGs X.K C gs)) (hs : (assignEach (e :: es) X.env).map (·.2) = assign e X.env :: (assignEach es X.env).map (·.2) := by rfl) : PGs X (e :: es) (tDGs X.K C (mgCons g gs)) := pdgs_cons h1 h2 (pgs_cons h1 h2 hs)
theorem gvcons {vs : List Nat} {e : Expr} {es : List Expr} {g : MG} {gs : MGs} (h1 : PG X e (tDGv X.K C vs g)) (h2 : PGs X es (tDGsv X.K C vs gs)) (hs : (assignEach (e :: es) X.env).map (·.2) = assign e X.env :: (assignEach es X.env).map (·.2) := by rfl) : PGs X (e :: es) (tDGsv X.K C vs (mgCons g gs)) := pdgsv_cons (pgs_cons h1 h2 hs)
theorem dgv (i : Nat) {vs : List Nat} {x : Str} {pos : Pos} (hN : X.N.Nodup) (hv : i ∈ vs := by decide) (hi : X.N[i]? = some x := by rfl) (hx : Loc X.env.scope x := by first | exact Or.inl rfl | exact Or.inr rfl) (hf : X.fn x = true ∨ X.env.scope.names.lookup x = some .local := by first | exact .inl rfl | exact .inr rfl) :
    PG X (.Name x pos) (tDGv X.K C vs (mgName i)) := pdgv_name hv (pg_name hN hi hx hf)
theorem d_range1 {tg a : Expr} {p pos : Pos} {m : MA} (hm : X.mg "range" = none) (h : PA X [a] (tDA X.K C m)) (hg : Gl X "range" := by rfl) (hs : starEach [a] X.env = [(false, eval a X.env)] := by rfl) : PI X tg (.Call (.Name "range" p) [a] [] pos) (tDI X.K C (miRng1 m)) :=
  pdi_range1 hm h hg (pi_range1 hg hm h hs)
theorem d_range2 {tg a b : Expr} {p pos : Pos} {m : MA} (hm : X.mg "range" = none) (h : PA X [a, b] (tDA X.K C m)) (hg : Gl X "range" := by rfl) (hs : starEach [a, b] X.env = [(false, eval a X.env), (false, eval b X.env)] := by rfl) (hs2 : starEach [b] X.env = [(false, eval b X.env)] := by rfl) : PI X tg (.Call (.Name "range" p) [a, b] [] pos) (tDI X.K C (miRng2 m)) :=
  pdi_range2 hm h hg (pi_range2 hg hm h hs hs2)
end
end DL
namespace DL
open PySem PySem.Spec PyProof.Rows L2 HT
theorem rev_places (n : Nat) : Builtin.Slice.slicePlaces ((n : Int) - 1) (-1) (-1) = n := by
  unfold Builtin.Slice.slicePlaces
  have h1 : ¬ ((-1 : Int) > 0) := by omega
  rw [if_neg h1]
  by_cases h : (n : Int) - 1 > -1
  · rw [if_pos h, show (-(-1) : Int) = 1 from rfl, Int.ediv_one]; omega
  · rw [if_neg h]; omega
theorem fm_congr {α β : Type} {f g : α → Option β} : ∀ {l : List α}, (∀ x ∈ l, f x = g x) → l.filterMap f = l.filterMap g
  | [], _ => rfl
  | x :: l, h => by
    rw [List.filterMap_cons, List.filterMap_cons, h x (by simp), fm_congr (l := l) fun y hy => h y (by simp [hy])]
theorem rev_pick (xs : Array Value) : ((List.range xs.size).filterMap fun (m : Nat) => xs[(((xs.size : Int) - 1) + (m : Int) * (-1)).toNat]?).toArray = xs.toList.reverse.toArray := by
  have e : ((List.range xs.size).filterMap fun (m : Nat) => xs[(((xs.size : Int) - 1) + (m : Int) * (-1)).toNat]?) = ((List.range xs.size).map fun k => xs.size - 1 - k).filterMap (xs[·]?) := by
    rw [List.filterMap_map]
    refine fm_congr fun m hm => ?_
    have : (((xs.size : Int) - 1) + (m : Int) * (-1)).toNat = xs.size - 1 - m := by
      have := List.mem_range.mp hm
      omega
    rw [this]
    rfl
  rw [e, PySem.W.krv_range, List.filterMap_reverse, PySem.W.krv_all]
section
variable {prog : Program} {w : World} {A : Around} {E : Value → Shared → Prop} {s : Shared}
theorem rev_applied {sl : Addr} {vs : Value} {n : Nat} {Q : Int × Int × Nat → Shared → Prop} (hs : s.heap.IsSliceOf sl .none .none vs) (ps : IsPart vs (some (-1))) (h : Q ((n : Int) - 1, -1, n) s) :
    wpAny (model prog w) A (Builtin.Slice.sliceApplied (.ref sl) (pure (n : Int))) Q E s := by
  obtain ⟨oo, ho, hcc, hdd⟩ := id hs
  unfold Builtin.Slice.sliceApplied
  unfold Builtin.Slice.sliceFields
  refine wpAny_bind (wpAny_bind (wpAny_field ho hdd (x := .none) rfl (wpAny_bind (wpAny_field ho hdd (x := .none) rfl (wpAny_bind (wpAny_field ho hdd (x := vs) rfl (wpAny_pure ?_)))))))
  refine wpAny_bind (slicePart_ ps ?_)
  show wpAny _ _ (if ((-1 : Int) == 0) = true then _ else _) _ _ s
  rw [if_neg (by decide)]
  refine wpAny_bind (slicePart_none (wpAny_bind (slicePart_none (wpAny_bind (wpAny_pure ?_)))))
  show wpAny _ _ (pure ((n : Int) - 1, (-1 : Int), Builtin.Slice.slicePlaces ((n : Int) - 1) (-1) (-1))) _ _ s
  rw [rev_places]
  exact wpAny_pure h
theorem rev_item {t sl : Addr} {items : Array Value} {vs : Value} {Q : Value → Shared → Prop} (ht : IsTup s.heap t items) (hs : s.heap.IsSliceOf sl .none .none vs) (ps : IsPart vs (some (-1)))
    (h : Q (.ref s.heap.objs.size) { s with heap := s.heap.push { cls := .type "tuple", data := .seq items.toList.reverse.toArray } }) (hsz : items.size ≤ sizeLine) : wpAny (model prog w) A (getItem (.ref t) (.ref sl)) Q E s := by
  have fits : sizeOk (.seq items.toList.reverse.toArray) := by
    show items.toList.reverse.toArray.size ≤ sizeLine
    rw [List.size_toArray, List.length_reverse, Array.length_toList]
    exact hsz
  have isS : s.TypeIs (.ref sl) "slice" := hs.elim fun o q => ⟨o, q.1, q.2.1⟩
  unfold getItem
  try with_reducible refine wpAny_holding ?_
  first | refine wpAny_bind (wpAny_pure ?_) | skip
  refine wpAny_bind (wpAny_sequenceKey ht.typeIs (by decide) (wpAny_bind (wpAny_callSpecial?_slot (name := Str.ofString "__getitem__") ht.typeIs PyProof.Rows.slot_tuple_getitem (wpAny_call_entry PyProof.Rows.slot_tuple_getitem ht.typeIs entry_tuple_getitem ?_ (args_tuple_getitem _ _)))))
  show wpAny _ _ (Builtin.Tuple.tupleItemsOf (.ref t) >>= _) _ _ s
  refine wpAny_bind (tupleItemsOf_ ht (wpAny_bind (wpAny_typeOf isS ?_)))
  rw [if_pos (by decide)]
  refine wpAny_bind (rev_applied hs ps ?_)
  have other : ¬ (((items.size : Int) - 1 == 0 && (-1 : Int) == 1 && items.size == items.size) = true) := by
    intro q
    rw [Bool.and_eq_true, Bool.and_eq_true] at q
    exact absurd q.1.2 (by decide)
  show wpAny _ _ (if ((items.size : Int) - 1 == 0 && (-1 : Int) == 1 && items.size == items.size) = true then _ else _) _ _ s
  rw [if_neg other, rev_pick]
  first
    | exact wpAny_bind (m := Builtin.Tuple.tupleExact _) (wpAny_newObj_type (wpAny_pure ⟨_, rfl, wpAny_pure h⟩) fits)
    | exact wpAny_bind (m := Builtin.Tuple.tupleExact _) (wpAny_newObj_type (wpAny_bind (wpAny_pure (wpAny_pure ⟨_, rfl, wpAny_pure h⟩))) fits)
    | exact wpAny_bind (wpAny_bind (m := Builtin.Tuple.tupleExact _) (wpAny_newObj_type (wpAny_pure (wpAny_pure ⟨_, rfl, wpAny_pure h⟩)) fits))
    | exact wpAny_bind (wpAny_bind (m := Builtin.Tuple.tupleExact _) (wpAny_newObj_type (wpAny_pure ⟨_, rfl, wpAny_pure h⟩) fits))
end
section
variable {X : Cx} {C : Ct}
def tRev2 (K : PySem.W.Frag) (te : TE) : TE := fun σ H Q => te σ H fun x H1 => ∃ a xs, x = .ref a ∧ ((SqL K H1 a xs ∧ ∀ p, H1 p = none → Q (.ref p) (upd H1 p (.lst xs.reverse))) ∨ (SqT K H1 a xs ∧ ∀ p, H1 p = none → Q (.ref p) (upd H1 p (.tup xs.reverse))))
theorem pe_rev2 {e : Expr} {te : TE} {k : Nat} {p1 p2 p3 pos : Pos} (he : PE X e te) : PE X (.Subscript e (.Slice none none (some (.UnaryOp .USub (.Constant (.int 1) k p1) p2)) p3) pos) (tRev2 X.K te) := by
  refine ⟨fun pins s σ H Q I h => Subscript_ (thn (he.run pins s σ H _ I h) fun v s1 hh => ?_)⟩
  obtain ⟨x, H1, I1, r1, a, xs, ex, q⟩ := hh
  subst ex
  cases r1
  have one : PO X (some (.UnaryOp .USub (.Constant (.int 1) k p1) p2)) (tPart (tUn (rU fun i => .int (-i)) (tC (.int 1)))) := po_some (pe_un un_neg pe_int)
  refine wpAny_Slice (thn (po_none.run pins s1 σ H1 (fun o H2 => o = none ∧ H2 = H1) I1 ⟨rfl, rfl⟩) fun vl s2 z => ?_)
  obtain ⟨_, _, I2, pl, rfl, rfl⟩ := z
  refine thn (po_none.run pins s2 σ _ (fun o H3 => o = none ∧ H3 = _) I2 ⟨rfl, rfl⟩) fun vu s3 z => ?_
  obtain ⟨_, _, I3, pu, rfl, rfl⟩ := z
  refine thn (one.run pins s3 σ _ (fun o H4 => o = some (-1) ∧ H4 = _) I3 ⟨1, rfl, -1, rfl, rfl, rfl⟩) fun vs s4 z => ?_
  obtain ⟨_, H4, I4, ps, rfl, rfl⟩ := z
  have I5 : Inv X pins σ _ { s4 with heap := s4.heap.push { cls := .type "slice", data := .fields #[vl, vu, vs] } } := I4.kept (t' := s4.toks) fun b ob q => Heap.get?_push_of_some _ q
  cases pl
  cases pu
  show wpAny (model X.prog X.w) X.A (subscriptTail e _ (.ref a) (.ref s4.heap.objs.size)) (EP X pins σ Q) X.xe { s4 with heap := s4.heap.push { cls := .type "slice", data := .fields #[.none, .none, vs] } }
  rcases q with ⟨hx, q⟩ | ⟨hx, q⟩
  · obtain ⟨its, r, ht, hz⟩ := I5.list hx
    have hlen := r.length
    refine tail_any (ops := [.ref a, .ref s4.heap.objs.size]) ht.isList.typeIs (PySem.slot_list_getitem.lookup) ?_ (by with_unfolding_all rfl)
    refine wpAny_getItem_list_slice ht.isList (Heap.IsSliceOf.new _ _ _ vs) .none .none ps (by decide) ?_ (by rw [List.size_toArray]; omega)
    rw [PySem.W.krv_pick]
    exact ⟨.ref _, _, I5.laid (t' := s4.toks) (o := .lst xs.reverse) (fun b ob q => Heap.get?_push_of_some _ q) (Nat.le_refl _) ⟨by rw [List.length_reverse]; exact hz, _, 0, r.reverse, Heap.get?_push_size _ rfl⟩, rfl, q _ (I5.hok.fresh (Nat.le_refl _))⟩
  · obtain ⟨its, r, ht, hz⟩ := I5.tuple hx
    have hlen := r.length
    refine tail_any (ops := [.ref a, .ref s4.heap.objs.size]) ht.typeIs (PyProof.Rows.slot_tuple_getitem.lookup) ?_ (by with_unfolding_all rfl)
    refine rev_item ht (Heap.IsSliceOf.new _ _ _ vs) ps ?_ (by rw [List.size_toArray]; omega)
    exact ⟨.ref _, _, I5.laid (t' := s4.toks) (o := .tup xs.reverse) (fun b ob q => Heap.get?_push_of_some _ q) (Nat.le_refl _) ⟨by rw [List.length_reverse]; exact hz, _, r.reverse, IsTup.new _ _⟩, rfl, q _ (I5.hok.fresh (Nat.le_refl _))⟩
theorem rpA_reverse {K : PySem.W.Frag} {F : Hp} {vs : List V} {ds : List PyData} (r : RpA K F vs ds) : RpA K F vs.reverse ds.reverse := by
  have app : ∀ {vs : List V} {ds : List PyData} {ws : List V} {es : List PyData}, RpA K F vs ds → RpA K F ws es → RpA K F (vs.reverse ++ ws) (ds.reverse ++ es) := by
    intro vs
    induction vs with
    | nil => intro ds ws es r q; cases r; exact q
    | cons v vs ih =>
      intro ds ws es r q
      cases r with
      | cons h r =>
        rw [List.reverse_cons, List.reverse_cons, List.append_assoc, List.append_assoc]
        exact ih r (.cons h q)
  have := app r (RpA.nil (K := K) (F := F))
  simpa using this
theorem pd_rev {e : Expr} {me : ME} {k : Nat} {p1 p2 p3 pos : Pos} (he : PE X e (tD X.K C me)) : PE X (.Subscript e (.Slice none none (some (.UnaryOp .USub (.Constant (.int 1) k p1) p2)) p3) pos) (tD X.K C (mOp1 opRev me)) := pe_imp (pe_rev2 he) (by
  rintro σ H Q ⟨F, sd, Qd, R, h, k⟩
  refine ⟨F, sd, _, R, h, fun x H1 F1 a sd1 R1 S1 rx h1 => ?_⟩
  obtain ⟨z, e, q⟩ := h1
  cases rx with
  | lst h2 r2 =>
    cases e
    refine ⟨_, _, rfl, .inl ⟨.inl (.inl (R1.ext _ _ h2)), fun p hp => ?_⟩⟩
    exact k (.ref p) _ _ _ sd1 (R1.al (.new hp)) (S1.trans (.al R1 (.new hp))) (.lst upd_same (rpA_reverse (r2.mono (same_new (free_of R1.ext hp))))) q
  | tup h2 r2 =>
    cases e
    refine ⟨_, _, rfl, .inr ⟨same_t R1.ext h2, fun p hp => ?_⟩⟩
    exact k (.ref p) _ _ _ sd1 (R1.al (.new hp)) (S1.trans (.al R1 (.new hp))) (.tup (.inl (.inl upd_same)) (rpA_reverse (r2.mono (same_new (free_of R1.ext hp))))) q
  | _ => cases e)
end
end DL
namespace DL
open PySem PySem.Spec PyProof.Rows L2
section
variable {P : Program} {w : World} {K : PySem.W.Frag} {mg : Str → Option Value} {base : Heap} {CN : String → Option Addr}
theorem psw {N : List Str} {qual : Str} {sc : Scope} {f : Addr} {cdv : Value} {A : Around} {outer : List Env} {s : Shared} {H : Hp} {E : XK} :
    PassesOwn (model (cxD P w K mg base N qual sc f cdv A outer s H E).prog (cxD P w K mg base N qual sc f cdv A outer s H E).w) (cxD P w K mg base N qual sc f cdv A outer s H E).A (cxD P w K mg base N qual sc f cdv A outer s H E).env (cxD P w K mg base N qual sc f cdv A outer s H E).xe := passes_of (X := cxD P w K mg base N qual sc f cdv A outer s H E) rfl
inductive Sel where | p (i : Nat) | k (i : Nat)
def pick {α : Type} (us ws : List α) : List Sel → List α
  | [] => []
  | .p i :: r => us[i]?.toList ++ pick us ws r
  | .k i :: r => ws[i]?.toList ++ pick us ws r
/-- a places, b keywords, in this order -/
def gSel (a b : Nat) (ss : List Sel) {α : Type} (us ws : List α) : List α := if us.length = a ∧ ws.length = b then pick us ws ss else []
theorem paired_app {α β : Type} {R : α → β → Prop} : ∀ {as : List α} {bs : List β} {cs : List α} {ds : List β}, Paired R as bs → Paired R cs ds → Paired R (as ++ cs) (bs ++ ds)
  | _, _, _, _, .nil, q => q
  | _, _, _, _, .cons h r, q => .cons h (paired_app r q)
theorem paired_at {α β : Type} {R : α → β → Prop} : ∀ {as : List α} {bs : List β} (i : Nat), Paired R as bs → Paired R as[i]?.toList bs[i]?.toList
  | _, _, _, .nil => .nil
  | _, _, 0, .cons h _ => .cons h .nil
  | _ :: _, _ :: _, i + 1, .cons _ r => by simpa using paired_at i r
theorem paired_len {α β : Type} {R : α → β → Prop} : ∀ {as : List α} {bs : List β}, Paired R as bs → as.length = bs.length
  | _, _, .nil => rfl
  | _, _, .cons _ r => by simp [paired_len r]
theorem ord_sel (a b : Nat) (ss : List Sel) : Ord (fun {α} => gSel a b ss (α := α)) where
  rel := fun {α β} R {as cs bs ds} h1 h2 => by
    unfold gSel
    rw [paired_len h1, paired_len h2]
    split
    · induction ss with
      | nil => exact .nil
      | cons s ss ih =>
        cases s with
        | p i => exact paired_app (paired_at i h1) ih
        | k i => exact paired_app (paired_at i h2) ih
    · exact .nil
theorem kbinds_of {fd : FuncData} {ps ks : List Str} {a b : Nat} {ss : List Sel} (hp : ps ≠ []) (h : ∀ (s : Shared) (us ws : List Value), us.length = a → ws.length = b → BindsTo s fd ⟨us, ks.zip ws⟩ (ps.zip (pick us ws ss))) : KBinds K fd ps ks (gSel a b ss) (gSel a b ss) where
  to := fun s us ws _ hl => by
    unfold gSel at hl ⊢
    by_cases c : us.length = a ∧ ws.length = b
    · rw [if_pos c]; exact h s us ws c.1 c.2
    · rw [if_neg c] at hl
      exact absurd (List.eq_nil_of_length_eq_zero hl.symm) hp
  rel := fun {vs us zs ws} h1 h2 => (ord_sel a b ss).rel RelV h1 h2
def dDraw : WSpec := fun n ds Q => ∃ m : Int, ds = [.int m] ∧ 1 ≤ n ∧ 1 ≤ m ∧ m.natAbs.log2 < 9000 ∧ ∀ r : Int, 0 ≤ r → r < m → Q (.va (.int r)) (n - 1)
def spWell (K : PySem.W.Frag) : Sp := fun vs H Q _ => ∃ (a : Addr) (ns : List Int) (k : Int), vs = [.ref a, .int k] ∧ SqL K H a (ns.map V.int) ∧ ns.length ≤ 63 ∧ (∀ z ∈ ns, Builtin.Int.intBits z ≤ 1048576) ∧ 0 ≤ k ∧ k < 2 ^ 20 ∧
  ∀ H' p x y z, Same H H' → H p = none → H' p = some (.lst [.int x, .int y, .int z]) → WellOk (2 ^ 60) x y z → Q (.ref p) H'
structure CalL (P : Program) (w : World) (K : PySem.W.Frag) (mg : Str → Option Value) (base : Heap) (k : Nat) (x : Str) : Prop where
  ex : ∃ f fd ps, FnG P w K mg base k f fd ps (spWell K) ∧ mg x = some (.ref f) ∧ PySem.W.keepIn K (.ref f) = true ∧ Binds K fd ps []
end
/-- the well from the script in slot i -/
def mWell (i : Nat) (me : ME) : MR := fun sd Q => (∃ ns, sget sd i = .scr ns) ∧ me sd fun d s1 => ∃ ns k, sget s1 i = .scr ns ∧ ns.length ≤ 63 ∧ (∀ z ∈ ns, Builtin.Int.intBits z ≤ 1048576) ∧ d = .int k ∧ 0 ≤ k ∧ k < 2 ^ 20 ∧ Q (.well (2 ^ 60)) s1
section
variable {K : PySem.W.Frag} {X : Cx} {C : Ct}
theorem td_well {i : Nat} {me : ME} {E : L2.St → XK} (hw : C.isW = false) : ∀ σ H Q, tDR K C (mWell i me) σ H Q → tCallG (spWell K) E (tCons (tVar i) (tCons (tD K C me) tNil)) σ H Q := by
  rintro σ H Q ⟨F, sd, Qd, R, ⟨⟨n0, hn0⟩, h⟩, k⟩
  have hi := R.slot i
  rw [hn0] at hi
  obtain ⟨p, e1, _⟩ := hi
  refine ⟨.ref p, gv_some.mp e1, F, sd, _, R, h, fun v H1 F1 d sd1 R1 S1 rv h1 => ?_⟩
  obtain ⟨ns, kk, hs, hl, hb, rfl, k0, k1, q⟩ := h1
  have hi1 := R1.slot i
  rw [hs] at hi1
  obtain ⟨p', z1, z2⟩ := hi1
  rw [e1] at z1; cases z1
  cases rv
  refine ⟨p, ns, kk, rfl, R1.ext.seq z2, hl, hb, k0, k1, fun H' p2 x y z sm hp hn ok => ?_⟩
  have S2 : Stp σ sd1 F1 H1 F1 H' sd1 := ⟨Same.refl _, fun a o e _ => sm a o e, fun _ z => z, fun a o e => .inl e, fun a e => by
    cases q : H1 a with
    | none => rfl
    | some o => rw [sm a o q] at e; cases e⟩
  have hF : F1 p2 = none := R1.free hp
  have R2 : Rs K C F1 H' σ sd1 := by
    refine ⟨R1.len, R1.grow, fun a o e => sm a o (R1.ext a o e), R1.new, fun a o e n => sm a o (R1.keep a o e n), fun a e => R1.still a (S2.st a e), fun j => (R1.slot j).grow (Same.refl _) fun q x o e eh en => ⟨sm q x eh, en⟩, R1.sep⟩
  refine k _ H' F1 (.well (2 ^ 60)) sd1 R2 (S1.trans S2) ⟨p2, x, y, z, rfl, hn, hF, .inr ⟨hw, R1.still p2 hp⟩, ok⟩ (fun _ q e => by cases e; exact (R1.fresh hp).1) (fun _ q e => by cases e; exact S1.st p2 hp) q
theorem pdr_well {i : Nat} {me : ME} {x y : Str} {e2 : Expr} {p p2 pos : Pos} {k j : Nat} {W : WX} (hw : C.isW = false) (c : CalL X.prog X.w X.K X.mg X.base k x) (hr : RoomG j X.A) (hk : k ≤ j) (tk : Takes X W) (hy : PE X (.Name y p2) (tVar i)) (he2 : PE X e2 (tD X.K C me)) (hg : Gl X x := by rfl)
    (hdb : (x == ("__debug__" : Str)) = false := by decide) (he : starEach (.Name y p2 :: [e2]) X.env = (false, eval (.Name y p2) X.env) :: starEach [e2] X.env := by rfl) (he1 : starEach (e2 :: []) X.env = (false, eval e2 X.env) :: starEach [] X.env := by rfl) (hpl : (backTo pos (starEach [e2] X.env)).any (·.1) = false := by rfl) :
    PE X (.Call (.Name x p) [.Name y p2, e2] [] pos) (tDR X.K C (mWell i me)) := by
  obtain ⟨f, fd, ps, F, hm, hkp, hb⟩ := c.ex
  exact pe_imp (pe_callG F (hr.mono hk) hg hm hkp hb (passAt tk) (pa_cons hy (pa_cons he2 pa_nil he1) he) hdb he hpl) (td_well hw)
end
end DL
namespace DL
open PySem PySem.Spec PyProof.Rows L2
/-- a + b of lists, a new list that nobody else holds -/
def mrCat (ma mb : ME) : MR := fun sd Q => ma sd fun a s1 => mb s1 fun b s2 => ∃ xs ys, a = .list xs ∧ b = .list ys ∧ xs.length + ys.length ≤ 100000 ∧ Q (.own (xs ++ ys)) s2
section
variable {K : PySem.W.Frag} {X : Cx} {C : Ct}
theorem pdt_ofw {e : Expr} {t : MT} (h : PW X e (tDT X.K C t)) : PT X e (tDT X.K C t) := h.pt
theorem cmpI_bl {p : Int → Int → Bool} {a b z : PyData} (h : cmpI p a b = some z) : ∃ k, z = .bool k := by
  unfold cmpI at h
  split at h
  · cases h; exact ⟨_, rfl⟩
  · cases h
theorem eq_bl {a b z : PyData} (h : opEq a b = some z) : ∃ k, z = .bool k := by
  unfold opEq at h
  split at h
  · cases h; exact ⟨_, rfl⟩
  · obtain ⟨p, _, h⟩ := Option.map_eq_some_iff.mp h
    exact ⟨_, h.symm⟩
theorem ne_bl {a b z : PyData} (h : opNe a b = some z) : ∃ k, z = .bool k := by
  unfold opNe at h
  split at h
  · cases h; exact ⟨_, rfl⟩
  · obtain ⟨p, _, h⟩ := Option.map_eq_some_iff.mp h
    exact ⟨_, h.symm⟩
theorem pd_chain2 {op op'} {r r' : R2} {f g : PyData → PyData → Option PyData} {a b c : Expr} {ma mb mc : ME} {pos : Pos} (ho : OpR X (compareOp op) r) (ho' : OpR X (compareOp op') r') (L : RL2 X.K r f) (L' : RL2 X.K r' g)
    (ha : PE X a (tD X.K C ma)) (hb : PE X b (tD X.K C mb)) (hc : PE X c (tD X.K C mc)) (hu : ∀ {a b : PyData} {z : PyData}, f a b = some z → ∃ k, z = .bool k := by first | exact cmpI_bl | exact eq_bl | exact ne_bl)
    (hm : lastMarks [op, op'] [b, c] = false := by with_unfolding_all rfl) : PE X (.Compare a [op, op'] [b, c] pos) (tD X.K C (mChain f g ma mb mc)) := pd_chain ho ho' L L' ha hb hc hu (pe_chain ho ho' ha hb hc hm)
theorem pdt_chain2 {op op'} {r r' : R2} {f g : PyData → PyData → Option PyData} {a b c : Expr} {ma mb mc : ME} {pos : Pos} (ho : OpR X (compareOp op) r) (ho' : OpR X (compareOp op') r') (L : RL2 X.K r f) (L' : RL2 X.K r' g)
    (ha : PE X a (tD X.K C ma)) (hb : PE X b (tD X.K C mb)) (hc : PE X c (tD X.K C mc)) (hm : lastMarks [op, op'] [b, c] = false := by with_unfolding_all rfl) : PT X (.Compare a [op, op'] [b, c] pos) (tDT X.K C (mT (mChain f g ma mb mc))) := pdt_chain L L' (pt_chain ho ho' ha hb hc hm)
theorem pdr_cat {a b : Expr} {ma mb : ME} {pos : Pos} (ha : PE X a (tD X.K C ma)) (hb : PE X b (tD X.K C mb)) : PE X (.BinOp a .Add b pos) (tDR X.K C (mrCat ma mb)) := pe_imp (pe_op op_cat ha hb) (by
  rintro σ H Q ⟨F, sd, Qd, R, h, k⟩
  refine ⟨F, sd, _, R, h, fun x H1 F1 d sd1 R1 S1 rx h1 => ⟨F1, sd1, _, R1, h1, fun y H2 F2 e sd2 R2 S2 ry h2 => ?_⟩⟩
  obtain ⟨xs, ys, rfl, rfl, hl, q⟩ := h2
  cases rx with
  | lst a1 r1 =>
    cases ry with
    | lst a2 r2 =>
      refine ⟨_, _, _, _, rfl, rfl, R2.ext _ _ (S2.fr _ _ a1), R2.ext _ _ a2, ?_, fun p hp => ?_⟩
      · rw [r1.length, r2.length]; exact line_of hl
      · have S := S1.trans S2
        refine k (.ref p) _ F2 (.own (xs ++ ys)) sd2 (R2.allocH hp) (S.trans ⟨Same.refl _, fun a o e _ => same_new hp a o e, fun _ z => z, fun _ _ e => .inl e, fun a e => ?_⟩) ⟨p, _, rfl, upd_same, R2.free hp, R2.still p hp, (r1.mono S2.fr).append r2⟩ (fun _ q' e => ?_) (fun _ q' e => ?_) q
        · by_cases z : a = p
          · subst z; exact hp
          · rw [upd_ne z] at e; exact e
        · cases e; exact (R2.fresh hp).1
        · cases e; exact S.st p hp)
end
end DL
namespace DL
open PySem PySem.Spec PyProof.Rows L2
def bTup : List PyData → Option PyData
  | [.list xs] => some (.tuple xs)
  | [.tuple xs] => some (.tuple xs)
  | _ => none
section
variable {K : PySem.W.Frag} {X : Cx} {C : Ct}
theorem pd_tupOf {p pos : Pos} {a : Expr} {m : ME} (hm : X.mg "tuple" = none) (ha : PE X a (tD X.K C m)) (hg : Gl X "tuple" := by rfl) (na : starEach [a] X.env = (false, eval a X.env) :: starEach [] X.env := by rfl) :
    PE X (.Call (.Name "tuple" p) [a] [] pos) (tD X.K C (mCallB bTup (mCons m mNil))) := pe_imp (pe_tupleOf hg hm ha na) (by
  rintro σ H Q ⟨F, sd, Qd, R, h, k⟩
  refine ⟨F, sd, _, R, h, fun x H1 F1 d sd1 R1 S1 rx h1 => ?_⟩
  obtain ⟨r, e, q⟩ := h1
  cases rx with
  | lst h2 r2 =>
    cases e
    refine .inl ⟨_, _, rfl, .inl (.inl (R1.ext _ _ h2)), fun p hp => ?_⟩
    exact k (.ref p) _ _ _ sd1 (R1.al (.new hp)) (S1.trans (.al R1 (.new hp))) (.tup (.inl (.inl upd_same)) (r2.mono (same_new (free_of R1.ext hp)))) q
  | tup h2 r2 =>
    cases e
    exact .inr ⟨_, _, rfl, same_t R1.ext h2, k _ H1 F1 _ sd1 R1 S1 (.tup h2 r2) q⟩
  | _ => cases e)
end
section
variable {P : Program} {w : World} {K : PySem.W.Frag} {mg : Str → Option Value} {base : Heap} {CN : String → Option Addr}
/-- a promise that is never asked for -/
theorem fn_never {k : Nat} {f : Addr} {fd : FuncData} {ps : List Str} {spec : PSpec} (h : ∀ ds Q E, ¬ spec ds Q E) : FnG P w K mg base k f fd ps (spP K CN spec) where
  len := fun vs H Q E z => by
    obtain ⟨_, _, _, _, _, _, z, _⟩ := z
    exact (h _ _ _ z).elim
  run := fun _ _ _ _ z => by
    obtain ⟨_, _, _, _, _, _, z, _⟩ := z
    exact (h _ _ _ z).elim
end
end DL
namespace DL
open PySem
theorem fz_va {d : PyData} : fz (.va d) = some d := rfl
theorem fz_own {ds : List PyData} : fz (.own ds) = some (.list ds) := rfl
section
variable {a b : Int}
theorem opAdd_i : opAdd (.int a) (.int b) = some (.int (a + b)) := rfl
theorem opSub_i : opSub (.int a) (.int b) = some (.int (a - b)) := rfl
theorem opMul_i : opMul (.int a) (.int b) = if small a b = true then some (.int (a * b)) else none := rfl
theorem opMod_i : opMod (.int a) (.int b) = if 0 < b then some (.int (a % b)) else none := rfl
theorem opFdiv_i : opFdiv (.int a) (.int b) = if 0 < b ∧ b.natAbs.log2 < 9000 then some (.int (a / b)) else none := rfl
theorem opPow_i : opPow (.int a) (.int b) = if 0 ≤ b ∧ b ≤ 100 ∧ a.natAbs < 2 ^ 10000 then some (.int (a ^ b.toNat)) else none := rfl
theorem opLt_i : opLt (.int a) (.int b) = some (.bool (decide (a < b))) := rfl
theorem opLe_i : opLe (.int a) (.int b) = some (.bool (decide (a ≤ b))) := rfl
theorem opGt_i : opGt (.int a) (.int b) = some (.bool (decide (b < a))) := rfl
theorem opGe_i : opGe (.int a) (.int b) = some (.bool (decide (b ≤ a))) := rfl
theorem opIsB_b {a b : Bool} : opIsB (.bool a) (.bool b) = some (.bool (decide (a = b))) := rfl
theorem opNotB_b {a b : Bool} : opNotB (.bool a) (.bool b) = some (.bool (!decide (a = b))) := rfl
theorem opIsN_n {d : PyData} : opIsN2 d .none = some (.bool (isN d)) := rfl
theorem opNotN_n {d : PyData} : opNotN2 d .none = some (.bool (!isN d)) := rfl
theorem opNeg_i : opNeg (.int a) = some (.int (-a)) := rfl
theorem bAbs_i : bAbs [.int a] = some (.int (if a < 0 then -a else a)) := rfl
theorem bMax_i : bMax [.int a, .int b] = some (.int (if b > a then b else a)) := rfl
theorem bMin_i : bMin [.int a, .int b] = some (.int (if b < a then b else a)) := rfl
theorem bInt_i : bInt [.int a] = some (.int a) := rfl
theorem bGcd_i : bGcd [.int a, .int b] = some (.int ((Nat.gcd a.natAbs b.natAbs : Nat) : Int)) := rfl
theorem bLen_l {xs : List PyData} : bLen [.list xs] = some (.int (xs.length : Int)) := rfl
theorem bLen_t {xs : List PyData} : bLen [.tuple xs] = some (.int (xs.length : Int)) := rfl
theorem opAdd_t {xs ys : List PyData} : opAdd (.tuple xs) (.tuple ys) = if xs.length + ys.length ≤ 100000 then some (.tuple (xs ++ ys)) else none := rfl
theorem opAdd_l {xs ys : List PyData} : opAdd (.list xs) (.list ys) = if xs.length + ys.length ≤ 100000 then some (.list (xs ++ ys)) else none := rfl
theorem opIx_l {xs : List PyData} : opIx (.list xs) (.int a) = atI xs a := rfl
theorem opIx_t {xs : List PyData} : opIx (.tuple xs) (.int a) = atI xs a := rfl
end
theorem opSl_t {xs : List PyData} {lo hi : Option Int} : opSl (.tuple xs) lo hi = some (.tuple (cutL xs lo hi)) := rfl
theorem opSl_l {xs : List PyData} {lo hi : Option Int} : opSl (.list xs) lo hi = some (.list (cutL xs lo hi)) := rfl
theorem opRev_t {xs : List PyData} : opRev (.tuple xs) = some (.tuple xs.reverse) := rfl
theorem opRev_l {xs : List PyData} : opRev (.list xs) = some (.list xs.reverse) := rfl
theorem bTup_l {xs : List PyData} : bTup [.list xs] = some (.tuple xs) := rfl
theorem bTup_t {xs : List PyData} : bTup [.tuple xs] = some (.tuple xs) := rfl
theorem bList_l {xs : List PyData} : bList [.list xs] = some (.list xs) := rfl
theorem bList_t {xs : List PyData} : bList [.tuple xs] = some (.list xs) := rfl
theorem cutL_all {α : Type} {p : α → Bool} {xs : List α} {lo hi : Option Int} (h : xs.all p = true) : (cutL xs lo hi).all p = true := by
  rw [List.all_eq_true] at h ⊢
  intro x hx
  exact h x (List.mem_of_mem_drop (List.mem_of_mem_take hx))
theorem cutL_len {α : Type} {xs : List α} {lo hi : Option Int} : (cutL xs lo hi).length ≤ xs.length := by
  unfold cutL
  rw [List.length_take, List.length_drop]
  omega
theorem opEq_b {a b : Bool} : opEq (.bool a) (.bool b) = some (.bool (a == b)) := by
  unfold opEq SeqAt.shaped
  simp [PyData.canLay0, PyData.depth, PyData.eqv]
theorem opNe_b {a b : Bool} : opNe (.bool a) (.bool b) = some (.bool (!(a == b))) := by
  unfold opNe SeqAt.shaped
  simp [PyData.canLay0, PyData.depth, PyData.eqv]
theorem opEq_nn : opEq .none .none = some (.bool true) := by
  unfold opEq SeqAt.shaped
  simp [PyData.canLay0, PyData.depth, PyData.eqv]
theorem mgCons_c {g : MG} {gs : MGs} {d : PyData} {r : List PyData} {sd : DSt} {Q : DSt → Prop} : mgCons g gs (d :: r) sd Q = g d sd fun s1 => gs r s1 Q := propext ⟨fun ⟨_, _, e, h⟩ => by cases e; exact h, fun h => ⟨_, _, rfl, h⟩⟩
theorem mgNil_n {sd : DSt} {Q : DSt → Prop} : mgNil [] sd Q = Q sd := propext ⟨fun h => h.2, fun h => ⟨rfl, h⟩⟩
theorem mgTup_t {n : Nat} {gs : MGs} {ds : List PyData} {sd : DSt} {Q : DSt → Prop} : mgTup n gs (.tuple ds) sd Q = (ds.length = n ∧ gs ds sd Q) := propext ⟨fun ⟨_, e, h⟩ => by cases e; exact h, fun h => ⟨_, rfl, h⟩⟩
theorem mgTup_l {n : Nat} {gs : MGs} {ds : List PyData} {sd : DSt} {Q : DSt → Prop} : mgTup n gs (.list ds) sd Q = (ds.length = n ∧ gs ds sd Q) := propext ⟨fun ⟨_, e, h⟩ => by cases e; exact h, fun h => ⟨_, rfl, h⟩⟩
theorem items_t {xs : List PyData} : items (.tuple xs) = some xs := rfl
theorem items_l {xs : List PyData} : items (.list xs) = some xs := rfl
theorem atI0 {α : Type} {x : α} {r : List α} : atI (x :: r) 0 = some x := by
  unfold atI ixN
  simp
theorem atI1 {α : Type} {x y : α} {r : List α} : atI (x :: y :: r) 1 = some y := by
  unfold atI ixN
  rw [if_pos (by decide), if_pos (by simp only [List.length_cons]; omega)]
  rfl
theorem atI2 {α : Type} {x y z : α} {r : List α} : atI (x :: y :: z :: r) 2 = some z := by
  unfold atI ixN
  rw [if_pos (by decide), if_pos (by simp only [List.length_cons]; omega)]
  rfl
theorem atI3 {α : Type} {x y z w : α} {r : List α} : atI (x :: y :: z :: w :: r) 3 = some w := by
  unfold atI ixN
  rw [if_pos (by decide), if_pos (by simp only [List.length_cons]; omega)]
  rfl
theorem atI_mem {α : Type} {xs : List α} {r : Int} (h0 : 0 ≤ r) (h1 : r < xs.length) : ∃ d ∈ xs, atI xs r = some d := by
  have hl : r.toNat < xs.length := by omega
  refine ⟨xs[r.toNat], List.getElem_mem _, ?_⟩
  unfold atI ixN
  rw [if_pos h0, if_pos h1]
  exact List.getElem?_eq_getElem hl
theorem big10 : (10 : Int).natAbs < 2 ^ 10000 := Nat.lt_of_lt_of_le (show (10 : Int).natAbs < 2 ^ 200 by decide +kernel) (Nat.pow_le_pow_right (by decide) (by decide))
theorem opEq_int {a b : Int} : opEq (.int a) (.int b) = some (.bool (decide (a = b))) := by
  unfold opEq SeqAt.shaped
  simp [PyData.canLay0, PyData.depth, PyData.eqv]
  by_cases h : a = b <;> simp [h]
theorem opNe_int {a b : Int} : opNe (.int a) (.int b) = some (.bool (!decide (a = b))) := by
  unfold opNe SeqAt.shaped
  simp [PyData.canLay0, PyData.depth, PyData.eqv]
  by_cases h : a = b <;> simp [h]
theorem opEq_str {a b : Str} : opEq (.str a) (.str b) = some (.bool (decide (a = b))) := by
  unfold opEq
  split
  · have e : PyData.eqv (.str a) (.str b) = decide (a = b) := by
      by_cases h : a = b <;> simp [PyData.eqv, h]
    rw [e]
  · rfl
theorem opNe_str {a b : Str} : opNe (.str a) (.str b) = some (.bool (!decide (a = b))) := by
  unfold opNe
  split
  · have e : PyData.eqv (.str a) (.str b) = decide (a = b) := by
      by_cases h : a = b <;> simp [PyData.eqv, h]
    rw [e]
  · rfl
end DL
namespace DL
open PySem
theorem lcL_run {mg : MG} {mt : MT} {me : ME} {vs : List Nat} {Q : List PyData → DSt → Prop} (I : DSt → Prop) (k : PyData → Option PyData) :
    ∀ ds : List PyData, (∀ d ∈ ds, ∀ s, I s → ∀ (Y : PyData → DSt → Prop) (N : DSt → Prop), (∀ y s3, k d = some y → I s3 → Y y s3) → (∀ s2, k d = none → I s2 → N s2) → mg d (swipe s vs) fun s1 => mt s1 fun b s2 => if b = true then me s2 Y else N s2) →
      ∀ s acc, I s → acc.length + ds.length ≤ 100000 → (∀ s', I s' → Q (acc ++ ds.filterMap k) s') → lcL mg mt me vs Q ds s acc
  | [], _, s, acc, i, _, q => by
    have := q s i
    rw [List.filterMap_nil, List.append_nil] at this
    exact this
  | d :: ds, h, s, acc, i, hl, q => by
    refine h d (by simp) s i _ _ (fun y s3 e i3 => ⟨by simp at hl; omega, ?_⟩) (fun s2 e i2 => ?_)
    · refine lcL_run I k ds (fun d' hd => h d' (by simp [hd])) s3 (acc ++ [y]) i3 (by simp at hl ⊢; omega) fun s' i' => ?_
      have := q s' i'
      rw [List.filterMap_cons_some e] at this
      simpa using this
    · refine lcL_run I k ds (fun d' hd => h d' (by simp [hd])) s2 acc i2 (by simp at hl; omega) fun s' i' => ?_
      have := q s' i'
      rwa [List.filterMap_cons_none e] at this
theorem forL_run {mg : MG} {body : MS} {D : DE} (I : List PyData → DSt → Prop) (hs : ∀ d r s (N : DSt → Prop), I (d :: r) s → (∀ s', I r s' → N s') → mg d s fun s1 => body { D with nx := N, ct := N, bk := D.nx } s1) (he : ∀ s, I [] s → D.nx s) : ∀ ds s, I ds s → forL mg body D ds s
  | [], s, i => he s i
  | d :: r, s, i => hs d r s _ i fun s' i' => forL_run I hs he r s' i'
theorem whileN_run {t : MT} {body : MS} {D : DE} (I : Nat → DSt → Prop) (hs : ∀ n s (N : DSt → Prop), I n s → (∀ m s', m < n → I m s' → N s') → t s fun b s1 => if b = true then body { D with nx := N, ct := N, bk := D.nx } s1 else D.nx s1) :
    ∀ (k n : Nat) (s : DSt), n < k → I n s → whileN t body D k s
  | 0, n, s, h, _ => by omega
  | k + 1, n, s, h, i => hs n s _ i fun m s' hm i' => whileN_run I hs k m s' (by omega) i'
theorem whileM {t : MT} {body : MS} {D : DE} (I : Nat → DSt → Prop) {n : Nat} {s : DSt} (i : I n s) (hs : ∀ n s (N : DSt → Prop), I n s → (∀ m s', m < n → I m s' → N s') → t s fun b s1 => if b = true then body { D with nx := N, ct := N, bk := D.nx } s1 else D.nx s1) : mWhile t body D s :=
  ⟨n + 1, whileN_run I hs (n + 1) n s (Nat.lt_succ_self n) i⟩
theorem sget_eq {s : DSt} : sget s 0 = match s with
  | [] => .no
  | x :: _ => x := by cases s <;> rfl
end DL
namespace DL
open PySem
theorem bools_map {α : Type} (f : α → Bool) : ∀ xs : List α, bools (xs.map fun x => .bool (f x)) = some (xs.map f)
  | [] => rfl
  | x :: xs => by
    show (bools (xs.map fun x => .bool (f x))).map (f x :: ·) = _
    rw [bools_map f xs]
    rfl
theorem fm_some {α β : Type} (f : α → β) : ∀ xs : List α, xs.filterMap (fun d => some (f d)) = xs.map f
  | [] => rfl
  | x :: xs => by
    rw [List.filterMap_cons]
    simp [fm_some f xs]
end DL
namespace DL
open PySem
/-- a number of at most k binary digits -/
def sz (k : Nat) (z : Int) : Prop := z.natAbs < 2 ^ k
theorem sz_mono {k l : Nat} {z : Int} (h : sz k z) (hl : k ≤ l) : sz l z := Nat.lt_of_lt_of_le h (Nat.pow_le_pow_right (by decide) hl)
theorem sz_neg {k : Nat} {z : Int} (h : sz k z) : sz k (-z) := by
  unfold sz at *
  rwa [Int.natAbs_neg]
theorem sz_mul {k l : Nat} {a b : Int} (ha : sz k a) (hb : sz l b) : sz (k + l) (a * b) := by
  unfold sz at *
  rw [Int.natAbs_mul, Nat.pow_add]
  exact Nat.mul_lt_mul'' ha hb
theorem sz_add {k : Nat} {a b : Int} (ha : sz k a) (hb : sz k b) : sz (k + 1) (a + b) := by
  unfold sz at *
  have := Int.natAbs_add_le a b
  rw [Nat.pow_succ]
  omega
theorem sz_sub {k : Nat} {a b : Int} (ha : sz k a) (hb : sz k b) : sz (k + 1) (a - b) := by
  rw [Int.sub_eq_add_neg]
  exact sz_add ha (sz_neg hb)
theorem sz_le {k : Nat} {a b : Int} (hb : sz k b) (h : a.natAbs ≤ b.natAbs) : sz k a := Nat.lt_of_le_of_lt h hb
theorem sz_mod {k : Nat} {a b : Int} (hb : sz k b) (h : 0 < b) : sz k (a % b) := by
  have h1 := Int.emod_nonneg a (show b ≠ 0 by omega)
  have h2 := Int.emod_lt_of_pos a h
  exact sz_le hb (by omega)
theorem natAbs_div_le (a : Int) {b : Int} (h : 0 < b) : (a / b).natAbs ≤ a.natAbs := Int.natAbs_ediv_le_natAbs a b
theorem sz_div {k : Nat} {a b : Int} (ha : sz k a) (h : 0 < b) : sz k (a / b) := sz_le ha (natAbs_div_le a h)
theorem sz_log {k : Nat} {z : Int} (h : sz k z) : z.natAbs.log2 ≤ k := by
  by_cases h0 : z.natAbs = 0
  · rw [h0, show Nat.log2 0 = 0 by decide]
    exact Nat.zero_le _
  · exact Nat.le_of_lt ((Nat.log2_lt h0).mpr h)
theorem small_sz {a b : Int} {k l : Nat} (ha : sz k a) (hb : sz l b) (h : k + l < 1000000) : small a b = true := by
  have := sz_log ha
  have := sz_log hb
  exact decide_eq_true (by omega)
theorem opMul_ok {a b : Int} {k l : Nat} (ha : sz k a) (hb : sz l b) (h : k + l < 1000000) : opMul (.int a) (.int b) = some (.int (a * b)) := by rw [opMul_i, if_pos (small_sz ha hb h)]
theorem opMod_ok {a b : Int} (h : 0 < b) : opMod (.int a) (.int b) = some (.int (a % b)) := by rw [opMod_i, if_pos h]
theorem opFdiv_ok {a b : Int} {k : Nat} (h : 0 < b) (hb : sz k b) (hk : k < 9000) : opFdiv (.int a) (.int b) = some (.int (a / b)) := by
  have := sz_log hb
  rw [opFdiv_i, if_pos ⟨h, by omega⟩]
end DL
namespace DL
open PySem PySem.Spec PyProof.Rows L2
/-- body; an error of a class that is caught: the suite, with the error in slot i; else on -/
def mTry (body : WD → MS) (i : Nat) (cat : String → Bool) (suite : String → Addr → MS) (Wout : WD) : MS := fun D sd =>
  body (fun c sd' => (cat c = true → ∀ a, suite c a { nx := fun s => D.nx (sset s i .no), rt := D.rt, bk := fun s => D.bk (sset s i .no), ct := fun s => D.ct (sset s i .no) } (sset sd' i (.exc a))) ∧ (cat c = false → Wout c sd')) D sd
/-- isinstance(e, ..), e what slot i holds, at a -/
def mIsE (i : Nat) (a : Addr) (b : Bool) : ME := fun sd Q => sget sd i = .exc a ∧ Q (.bool b) sd
/-- from F on -/
abbrev Ct.on (C : Ct) (F : Hp) : Ct := { C with F0 := F }
section
variable {K : PySem.W.Frag} {X : Cx} {C : Ct} {F H F1 : Hp} {σ : L2.St} {sd : DSt}
theorem slot_on {v : Option V} {s : S} : SlotOk K (C.on F1) F H v s ↔ SlotOk K C F H v s := by cases s <;> exact Iff.rfl
theorem Rs.on (R : Rs K C F H σ sd) : Rs K (C.on F) F H σ sd :=
  ⟨R.len, Same.refl _, R.ext, fun _ _ e => .inl e, R.keep, R.still, fun i => slot_on.mpr (R.slot i), R.sep⟩
theorem Rs.off {F0 H0 : Hp} {σ0 : L2.St} {sd0 : DSt} (R0 : Rs K C F0 H0 σ0 sd0) (R : Rs K (C.on F0) F H σ sd) : Rs K C F H σ sd :=
  ⟨R.len, R0.grow.trans R.grow, R.ext, fun a o e => (R.new a o e).elim (fun z => R0.new a o z) .inr, R.keep, R.still, fun i => slot_on.mp (R.slot i), R.sep⟩
theorem EndOk.on {Dd : DE} {D : Ends} (R : Rs K C F H σ sd) (E : EndOk K C F Dd D) : EndOk K (C.on F) F Dd D :=
  ⟨fun F1 H1 σ1 sd1 e R1 q => E.nx F1 H1 σ1 sd1 e (R.off R1) q, fun F1 H1 σ1 sd1 v r e R1 rv o q => E.rt F1 H1 σ1 sd1 v r e (R.off R1) (slot_on.mp rv) o q, fun F1 H1 σ1 sd1 e R1 q => E.bk F1 H1 σ1 sd1 e (R.off R1) q, fun F1 H1 σ1 sd1 e R1 q => E.ct F1 H1 σ1 sd1 e (R.off R1) q⟩
variable {CN : String → Option Addr}
/-- the suite's wish, whatever the class is -/
def tSuite (K : PySem.W.Frag) (C : Ct) (CN : String → Option Addr) (suite : String → Addr → MS) : Addr → Value → Option Addr → TS := fun a cls d D σ H => ∃ c A, CN c = some A ∧ cls = .ref A ∧ d = none ∧ tDS K C (suite c a) D σ H
def tBody (K : PySem.W.Frag) (C : Ct) (CN : String → Option Addr) (mb : WD → MS) : WX → TS := fun W D σ H => ∃ F Wd, (∀ cls d σ H, wD K (C.on F) CN Wd cls d σ H → W cls d σ H) ∧ tDS K (C.on F) (mb Wd) D σ H
theorem td_try {hc : Value} {i : Nat} {cat : String → Bool} {mb : WD → MS} {suite : String → Addr → MS} {Wout : WD} (hx : ∀ c A, CN c = some A → PySem.W.exmOne K (.ref A) hc = some (cat c)) :
    ∀ D σ H, tDS K C (mTry mb i cat suite Wout) D σ H → tBody K C CN mb (wAs K hc i (tSuite K C CN suite) (wD K C CN Wout) D) D σ H := by
  rintro D σ H ⟨F, sd, Dd, R, E, h⟩
  refine ⟨F, _, ?_, F, sd, Dd, R.on, E.on R, h⟩
  rintro cls d σ1 H1 ⟨c, A, F1, sd1, hcn, rfl, rfl, R1, q1, q2⟩
  have R2 := R.off R1
  refine ⟨cat c, hx c A hcn, fun hb a ha => ⟨c, A, hcn, rfl, rfl, F1, _, _, R2.setr (v := .ref a) (r := .exc a) rfl (fun z => nomatch z), ?_, q1 hb a⟩, fun hb => ⟨c, A, F1, sd1, hcn, rfl, rfl, R2, q2 hb⟩⟩
  have E2 := E.mono R1.grow
  exact ⟨fun F3 H3 σ3 sd3 e R3 q => E2.nx F3 H3 _ _ e R3.setno q, E2.rt, fun F3 H3 σ3 sd3 e R3 q => E2.bk F3 H3 _ _ e R3.setno q, fun F3 H3 σ3 sd3 e R3 q => E2.ct F3 H3 _ _ e R3.setno q⟩
variable {x n : Str} {c : Value} {i : Nat} {body suite : List Stmt} {b₀ : Stmt} {np pos pos' : Pos}
theorem pds_try {hc : Value} {cat : String → Bool} {mb : WD → MS} {ms : String → Addr → MS} {Wout : WD} (hs : X.stack = X.env :: X.outer) (hf : X.env.frame = some X.env.locals) (hN : X.N.Nodup) (hi : X.N[i]? = some n) (hln : X.env.kindOf n = some .local) (hcn : Names X x hc) (tk : Takes X (wD X.K C CN Wout))
    (hx : ∀ c A, CN c = some A → PySem.W.exmOne X.K (.ref A) hc = some (cat c))
    (hb : ∀ (F : Hp) (Wd : WD) (pn : List (Addr × Obj)) (xe : Value → Shared → Prop), Takes (X.tr pn xe) (wD X.K (C.on F) CN Wd) → PassesOwn (model X.prog X.w) X.A X.env xe → PSs (X.tr pn xe) body (tDS X.K (C.on F) (mb Wd)))
    (hsu : ∀ (a : Addr) (oe : Obj) (pn : List (Addr × Obj)) (c : String) (A : Addr), CN c = some A → Zc (.ref A) none oe → (∃ vs, oe.data = .fields vs) → PSs (X.suite a ((a, oe) :: pn)) (b₀ :: suite) (tDS X.K C (ms c a))) :
    PS X (.Try body [.ExceptHandler (some (.Name x np)) (some n) (b₀ :: suite) pos'] [] [] pos) (tDS X.K C (mTry mb i cat ms Wout)) := by
  refine ps_imp (ps_try_as (ts := tSuite X.K C CN ms) (tb := tBody X.K C CN mb) hs hf hN hi hln hcn tk (fun W pn xe tk' po => ?_) (fun a oe cls d pn hz hfl => ?_)) (td_try hx)
  · refine ⟨fun pins s σ H D I h => ?_⟩
    obtain ⟨F, Wd, hw, h⟩ := h
    exact (hb F Wd pn xe (tk'.imp hw) po).run pins s σ H D I h
  · refine ⟨fun pins s σ H D I h => ?_⟩
    obtain ⟨c, A, hA, rfl, rfl, h⟩ := h
    exact (hsu a oe pn c A hA hz hfl).run pins s σ H D I h
/-- isinstance(n, T) in a suite -/
theorem pd_isE {a A : Addr} {oe : Obj} {pn : List (Addr × Obj)} {i : Nat} {y : Str} {p p2 pos : Pos} {b : Bool} {tv : V} {cv : Value} {te : Expr} (EC : ExcC X.K A) (hz : Zc (.ref A) none oe) (hfl : ∃ vs, oe.data = .fields vs) (hm : X.mg "isinstance" = none)
    (hk : PySem.W.kitOne X.K (.ref A) cv = some b) (hcv : ∀ u, RelV tv u → u = cv) (hN : (X.suite a ((a, oe) :: pn)).N[i]? = some y) (hv : Vis (X.suite a ((a, oe) :: pn)).env.scope y) (hT : PE (X.suite a ((a, oe) :: pn)) te (tC tv))
    (hg : Gl (X.suite a ((a, oe) :: pn)) "isinstance" := by rfl) (hd : (y == ("__debug__" : Str)) = false := by decide) (hcd : (y == ("__classdict__" : Str)) = false := by decide)
    (he : starEach (.Name y p2 :: [te]) X.env = (false, eval (.Name y p2) X.env) :: starEach [te] X.env := by rfl) (he1 : starEach (te :: []) X.env = (false, eval te X.env) :: starEach [] X.env := by rfl) (hpl : (backTo pos (starEach [te] X.env)).any (·.1) = false := by rfl) :
    PE (X.suite a ((a, oe) :: pn)) (.Call (.Name "isinstance" p) [.Name y p2, te] [] pos) (tD X.K C (mIsE i a b)) := pe_imp (pe_callB (call_isE EC hz hfl) hg hm (by decide +kernel) (pa_cons (pe_var hN hv hd hcd) (pa_cons hT pa_nil he1) he) (by decide) (by decide) he hpl) (by
  rintro σ H Q ⟨F, sd, Qd, R, ⟨hs, h⟩, k⟩
  have hi := R.slot i
  rw [hs] at hi
  refine ⟨.ref a, gv_some.mp hi, tv, cv, b, rfl, hcv, hk, ?_⟩
  exact k _ H F _ sd R .refl (.bl _) h)
end
end DL
namespace DL
open PySem PySem.Spec PyProof.Rows L2
/-- xs.f(x) -/
def mMeth (f : List PyData → PyData → Option PyData) (ma mb : ME) : ME := fun sd Q => ma sd fun a s1 => ∃ xs, a = .list xs ∧ mb s1 fun b s2 => ∃ r, f xs b = some r ∧ Q r s2
def opCnt (xs : List PyData) (b : PyData) : Option PyData := if (flatD b && xs.all flatD) = true then some (.int (xs.countP (fun d => PyData.eqv d b) : Nat)) else none
def firstAt (b : PyData) : List PyData → Option Nat
  | [] => none
  | d :: ds => if PyData.eqv d b = true then some 0 else (firstAt b ds).map (· + 1)
def opIdx (xs : List PyData) (b : PyData) : Option PyData := if (flatD b && xs.all flatD) = true then (firstAt b xs).map fun n => .int (n : Nat) else none
section
variable {K : PySem.W.Frag} {X : Cx} {C : Ct}
def rCntF (K : PySem.W.Frag) : V → List V → Hp → VK → Prop := fun x xs H Q => ∃ (p : Addr) (ys : List V) (y : V), x = .ref p ∧ xs = [y] ∧ SqL K H p ys ∧ flatV y = true ∧ ys.all flatV = true ∧ Q (.int (ys.countP (fun z => eqV z y) : Nat)) H
theorem countU {y : V} : ∀ {ys : List V} {us : List Value}, Vals ys us → ys.all flatV = true → us.countP (eqU y) = ys.countP (fun z => eqV z y)
  | _, _, .nil, _ => rfl
  | z :: ys, u :: us, .cons r rr, f => by
    rw [List.all_cons, Bool.and_eq_true] at f
    rw [List.countP_cons, List.countP_cons, countU rr f.2, eqU_of r f.1]
theorem mt_countF : MtR X "list.count" (rCntF X.K) := by
  intro pins s σ H x xs v us Q I rx rxs h
  obtain ⟨p, ys, y, rfl, rfl, hs, fy, fys, q⟩ := h
  cases rx
  obtain ⟨u, rfl, ru⟩ := rxs.one
  obtain ⟨its, rv, ⟨⟨cls, dd, data, sl⟩, n, ho, hc, hdn, hd⟩, hlen⟩ := I.list hs
  simp only at hc hd
  subst hc hd
  refine call_meets PySem.F.slot_list_count ⟨_, ho, rfl⟩ PySem.F.entry_list_count (PySem.F.args_list_count_2 _ _) (SeqAt.list_countAt p its.toArray n dd sl u (eqU y)) ⟨ho, fun u' hu' => mem_eqAt ru fy rv fys u' (by simpa using hu'), ?_⟩
  have ec : its.toArray.toList.countP (eqU y) = ys.countP (fun z => eqV z y) := countU rv fys
  refine ⟨.int (ys.countP (fun z => eqV z y) : Nat), H, I.tok _, ⟨s.toks, ?_⟩, q⟩
  show Value.int ((its.toArray.toList.countP (eqU y) : Nat) : Int) s.toks = _
  rw [ec]
theorem flats_rp {F : Hp} : ∀ {vs : List V} {ds : List PyData}, RpA K F vs ds → ds.all flatD = true → vs.all flatV = true
  | _, _, .nil, _ => rfl
  | v :: vs, d :: ds, .cons h r, hf => by
    rw [List.all_cons, Bool.and_eq_true] at hf
    rw [List.all_cons, flatV_rp h hf.1, flats_rp r hf.2]
    rfl
theorem count_rp {F : Hp} {y : V} {b : PyData} (ry : Rp K F y b) (hb : flatD b = true) : ∀ {vs : List V} {ds : List PyData}, RpA K F vs ds → ds.all flatD = true → vs.countP (fun z => eqV z y) = ds.countP (fun d => PyData.eqv d b)
  | _, _, .nil, _ => rfl
  | v :: vs, d :: ds, .cons h r, hf => by
    rw [List.all_cons, Bool.and_eq_true] at hf
    rw [List.countP_cons, List.countP_cons, count_rp ry hb r hf.2, eqV_rp h ry hf.1 hb]
theorem first_rp {F : Hp} {y : V} {b : PyData} (ry : Rp K F y b) (hb : flatD b = true) : ∀ {vs : List V} {ds : List PyData} {n : Nat}, RpA K F vs ds → ds.all flatD = true → firstAt b ds = some n →
    ∃ z, vs[n]? = some z ∧ eqV z y = true ∧ ∀ (m : Nat) (z' : V), m < n → vs[m]? = some z' → eqV z' y = false
  | _, _, _, .nil, _, e => by cases e
  | v :: vs, d :: ds, n, .cons h r, hf, e => by
    rw [List.all_cons, Bool.and_eq_true] at hf
    unfold firstAt at e
    by_cases c : PyData.eqv d b = true
    · rw [if_pos c] at e
      cases e
      exact ⟨v, rfl, (eqV_rp h ry hf.1 hb).trans c, fun m z' hm _ => by omega⟩
    · rw [if_neg c] at e
      obtain ⟨k, hk, rfl⟩ := Option.map_eq_some_iff.mp e
      obtain ⟨z, z1, z2, z3⟩ := first_rp ry hb r hf.2 hk
      refine ⟨z, by simpa using z1, z2, fun m z' hm hz => ?_⟩
      cases m with
      | zero =>
        cases hz
        rw [eqV_rp h ry hf.1 hb]
        simpa using c
      | succ m => exact z3 m z' (by omega) (by simpa using hz)
theorem td_meth {r : V → List V → Hp → VK → Prop} {f : List PyData → PyData → Option PyData} {ma mb : ME}
    (L : ∀ (F H : Hp) (p : Addr) (vs : List V) (ds : List PyData) (y : V) (b z : PyData) (Q : VK), Same F H → F p = some (.lst vs) → RpA K F vs ds → Rp K F y b → f ds b = some z → (∀ v, Rp K F v z → Q v H) → r (.ref p) [y] H Q) :
    ∀ σ H Q, tD K C (mMeth f ma mb) σ H Q → tBM K "list" r (tD K C ma) (tCons (tD K C mb) tNil) σ H Q := by
  rintro σ H Q ⟨F, sd, Qd, R, h, k⟩
  refine ⟨F, sd, _, R, h, fun x H1 F1 a sd1 R1 S1 rx h1 => ?_⟩
  obtain ⟨xs, rfl, h1⟩ := h1
  cases rx with
  | lst hp ra =>
    refine ⟨.inl ⟨rfl, _, .inl (.inl (R1.ext _ _ hp))⟩, F1, sd1, _, R1, h1, fun y H2 F2 b sd2 R2 S2 ry h2 => ?_⟩
    obtain ⟨z, e, q⟩ := h2
    exact L F2 H2 _ _ xs y b z Q R2.ext (S2.fr _ _ hp) (ra.mono S2.fr) ry e fun v rz => k v H2 F2 z sd2 R2 (S1.trans S2) rz q
variable {o e : Expr} {apos cpos : Pos} {ma mb : ME}
theorem pd_count (ho : PE X o (tD X.K C ma)) (he : PE X e (tD X.K C mb)) (t : PE X (.Call (.Attribute o "count" apos) [e] [] cpos) (tBM X.K "list" (rCntF X.K) (tD X.K C ma) (tCons (tD X.K C mb) tNil))) : PE X (.Call (.Attribute o "count" apos) [e] [] cpos) (tD X.K C (mMeth opCnt ma mb)) := pe_imp t (td_meth (by
  intro F H p vs ds y b z Q e hp ra ry h k
  unfold opCnt at h
  split at h
  · rename_i hc
    cases h
    rw [Bool.and_eq_true] at hc
    refine ⟨p, vs, y, rfl, rfl, .inl (.inl (e _ _ hp)), flatV_rp ry hc.1, flats_rp ra hc.2, ?_⟩
    rw [count_rp ry hc.1 ra hc.2]
    exact k _ (.int _)
  · cases h))
theorem pd_index (ho : PE X o (tD X.K C ma)) (he : PE X e (tD X.K C mb)) (t : PE X (.Call (.Attribute o "index" apos) [e] [] cpos) (tBM X.K "list" (rIndex X.K) (tD X.K C ma) (tCons (tD X.K C mb) tNil))) : PE X (.Call (.Attribute o "index" apos) [e] [] cpos) (tD X.K C (mMeth opIdx ma mb)) := pe_imp t (td_meth (by
  intro F H p vs ds y b z Q e hp ra ry h k
  unfold opIdx at h
  split at h
  · rename_i hc
    rw [Bool.and_eq_true] at hc
    obtain ⟨n, hn, rfl⟩ := Option.map_eq_some_iff.mp h
    obtain ⟨z, z1, z2, z3⟩ := first_rp ry hc.1 ra hc.2 hn
    exact ⟨p, vs, y, n, z, rfl, rfl, .inl (.inl (e _ _ hp)), flatV_rp ry hc.1, flats_rp ra hc.2, z1, z2, z3, k _ (.int _)⟩
  · cases h))
end
end DL
namespace LW
open PySem PySem.Spec PyProof.Rows L2 DL
def topS (i : Nat) : Stmt := PySem.Challenge.pw_cushionshots_k04_errors_of_places.main.body.getD i (.Pass ⟨0, 0, 0, 0⟩)
abbrev s_is_whole : Stmt := topS 9
theorem sc_is_whole : FnScope ["value"] ["value"] (defScope s_is_whole) := ⟨rfl, rfl, rfl, by decide +kernel, rfl, by decide +kernel, by decide +kernel⟩
abbrev s_are_whole : Stmt := topS 10
theorem sc_are_whole : FnScope ["value", "many", "item"] ["value", "many"] (defScope s_are_whole) := ⟨rfl, rfl, rfl, by decide +kernel, rfl, by decide +kernel, by decide +kernel⟩
abbrev s_fraction_of : Stmt := topS 11
theorem sc_fraction_of : FnScope ["top", "bottom", "common"] ["top", "bottom"] (defScope s_fraction_of) := ⟨rfl, rfl, rfl, by decide +kernel, rfl, by decide +kernel, by decide +kernel⟩
abbrev s__line_of : Stmt := topS 13
theorem sc__line_of : FnScope ["side", "start", "speed"] ["side", "start", "speed"] (defScope s__line_of) := ⟨rfl, rfl, rfl, by decide +kernel, rfl, by decide +kernel, by decide +kernel⟩
abbrev s_lines_of : Stmt := topS 12
theorem sc_lines_of : FnScope ["table", "shot", "width", "height", "x", "y", "p", "q"] ["table", "shot"] (defScope s_lines_of) := ⟨rfl, rfl, rfl, by decide +kernel, rfl, by decide +kernel, by decide +kernel⟩
abbrev s_is_table : Stmt := topS 15
theorem sc_is_table : FnScope ["value"] ["value"] (defScope s_is_table) := ⟨rfl, rfl, rfl, by decide +kernel, rfl, by decide +kernel, by decide +kernel⟩
abbrev s_check_table : Stmt := topS 26
theorem sc_check_table : FnScope ["table"] ["table"] (defScope s_check_table) := ⟨rfl, rfl, rfl, by decide +kernel, rfl, by decide +kernel, by decide +kernel⟩
abbrev s_is_any_shot : Stmt := topS 25
theorem sc_is_any_shot : FnScope ["value"] ["value"] (defScope s_is_any_shot) := ⟨rfl, rfl, rfl, by decide +kernel, rfl, by decide +kernel, by decide +kernel⟩
abbrev s_is_shot : Stmt := topS 16
theorem sc_is_shot : FnScope ["table", "value"] ["table", "value"] (defScope s_is_shot) := ⟨rfl, rfl, rfl, by decide +kernel, rfl, by decide +kernel, by decide +kernel⟩
abbrev s_is_fraction : Stmt := topS 17
theorem sc_is_fraction : FnScope ["value"] ["value"] (defScope s_is_fraction) := ⟨rfl, rfl, rfl, by decide +kernel, rfl, by decide +kernel, by decide +kernel⟩
abbrev s__fold : Stmt := topS 30
theorem sc__fold : FnScope ["side", "number", "top", "bottom", "rest"] ["side", "number"] (defScope s__fold) := ⟨rfl, rfl, rfl, by decide +kernel, rfl, by decide +kernel, by decide +kernel⟩
abbrev s_check_time : Stmt := topS 28
theorem sc_check_time : FnScope ["time"] ["time"] (defScope s_check_time) := ⟨rfl, rfl, rfl, by decide +kernel, rfl, by decide +kernel, by decide +kernel⟩
abbrev s_folded : Stmt := topS 18
theorem sc_folded : FnScope ["side", "number"] ["side", "number"] (defScope s_folded) := ⟨rfl, rfl, rfl, by decide +kernel, rfl, by decide +kernel, by decide +kernel⟩
abbrev s_check_shot : Stmt := topS 27
theorem sc_check_shot : FnScope ["table", "shot"] ["table", "shot"] (defScope s_check_shot) := ⟨rfl, rfl, rfl, by decide +kernel, rfl, by decide +kernel, by decide +kernel⟩
abbrev s__check_all : Stmt := topS 29
theorem sc__check_all : FnScope ["table", "shot", "time"] ["table", "shot", "time"] (defScope s__check_all) := ⟨rfl, rfl, rfl, by decide +kernel, rfl, by decide +kernel, by decide +kernel⟩
abbrev s__place : Stmt := topS 31
theorem sc__place : FnScope ["table", "shot", "time", "top", "bottom", "side", "start", "speed"] ["table", "shot", "time"] (defScope s__place) := ⟨rfl, rfl, rfl, by decide +kernel, rfl, by decide +kernel, by decide +kernel⟩
abbrev s_place_at : Stmt := topS 19
theorem sc_place_at : FnScope ["table", "shot", "time"] ["table", "shot", "time"] (defScope s_place_at) := ⟨rfl, rfl, rfl, by decide +kernel, rfl, by decide +kernel, by decide +kernel⟩
abbrev s__line_way : Stmt := topS 33
theorem sc__line_way : FnScope ["line", "time", "side", "start", "speed", "top", "bottom", "part"] ["line", "time"] (defScope s__line_way) := ⟨rfl, rfl, rfl, by decide +kernel, rfl, by decide +kernel, by decide +kernel⟩
abbrev s__way : Stmt := topS 32
theorem sc__way : FnScope ["table", "shot", "time", "line"] ["table", "shot", "time"] (defScope s__way) := ⟨rfl, rfl, rfl, by decide +kernel, rfl, by decide +kernel, by decide +kernel⟩
abbrev s_way_at : Stmt := topS 20
theorem sc_way_at : FnScope ["table", "shot", "time"] ["table", "shot", "time"] (defScope s_way_at) := ⟨rfl, rfl, rfl, by decide +kernel, rfl, by decide +kernel, by decide +kernel⟩
abbrev s_shot_at : Stmt := topS 21
theorem sc_shot_at : FnScope ["table", "shot", "time", "x", "x_bottom", "y", "y_bottom", "p", "q"] ["table", "shot", "time"] (defScope s_shot_at) := ⟨rfl, rfl, rfl, by decide +kernel, rfl, by decide +kernel, by decide +kernel⟩
abbrev s_turned : Stmt := topS 22
theorem sc_turned : FnScope ["shot", "x", "y", "p", "q"] ["shot"] (defScope s_turned) := ⟨rfl, rfl, rfl, by decide +kernel, rfl, by decide +kernel, by decide +kernel⟩
abbrev s_scaled : Stmt := topS 23
theorem sc_scaled : FnScope ["table", "shot", "many", "width", "height", "x", "y", "p", "q"] ["table", "shot", "many"] (defScope s_scaled) := ⟨rfl, rfl, rfl, by decide +kernel, rfl, by decide +kernel, by decide +kernel⟩
abbrev s_crossed : Stmt := topS 24
theorem sc_crossed : FnScope ["table", "shot", "width", "height", "x", "y", "p", "q"] ["table", "shot"] (defScope s_crossed) := ⟨rfl, rfl, rfl, by decide +kernel, rfl, by decide +kernel, by decide +kernel⟩
abbrev s__law_well : Stmt := topS 35
theorem sc__law_well : FnScope ["script", "at", "cell"] ["script", "at"] (defScope s__law_well) := ⟨rfl, rfl, rfl, by decide +kernel, rfl, by decide +kernel, by decide +kernel⟩
abbrev s__law_draw : Stmt := topS 36
theorem sc__law_draw : FnScope ["well", "most", "digit", "blend"] ["well", "most"] (defScope s__law_draw) := ⟨rfl, rfl, rfl, by decide +kernel, rfl, by decide +kernel, by decide +kernel⟩
abbrev s__law_desk : Stmt := topS 37
theorem sc__law_desk : FnScope ["well", "most", "wide", "tall"] ["well", "most"] (defScope s__law_desk) := ⟨rfl, rfl, rfl, by decide +kernel, rfl, by decide +kernel, by decide +kernel⟩
abbrev s__law_roll : Stmt := topS 38
theorem sc__law_roll : FnScope ["well", "desk", "most", "x", "y", "p", "q"] ["well", "desk", "most"] (defScope s__law_roll) := ⟨rfl, rfl, rfl, by decide +kernel, rfl, by decide +kernel, by decide +kernel⟩
abbrev s__law_called : Stmt := topS 39
theorem sc__law_called : FnScope ["way", "a", "b", "c"] ["way", "a", "b", "c"] (defScope s__law_called) := ⟨rfl, rfl, rfl, by decide +kernel, rfl, by decide +kernel, by decide +kernel⟩
abbrev s__law_told : Stmt := topS 40
theorem sc__law_told : FnScope ["way", "a", "b", "c", "marks", "caught"] ["way", "a", "b", "c"] (defScope s__law_told) := ⟨rfl, rfl, rfl, by decide +kernel, rfl, by decide +kernel, by decide +kernel⟩
abbrev s__law_third : Stmt := topS 41
theorem sc__law_third : FnScope ["well", "way", "some"] ["well", "way"] (defScope s__law_third) := ⟨rfl, rfl, rfl, by decide +kernel, rfl, by decide +kernel, by decide +kernel⟩
abbrev s__law_case : Stmt := topS 42
theorem sc__law_case : FnScope ["well", "way", "desk", "shot_here", "c", "due", "sides", "x", "y", "p", "q", "shots_bad", "far", "some"] ["well", "way"] (defScope s__law_case) := ⟨rfl, rfl, rfl, by decide +kernel, rfl, by decide +kernel, by decide +kernel⟩
abbrev s_law : Stmt := topS 43
theorem sc_law : FnScope ["script", "at", "well", "way", "a", "b", "c", "due"] ["script"] (defScope s_law) := ⟨rfl, rfl, rfl, by decide +kernel, rfl, by decide +kernel, by decide +kernel⟩
def anc : String → List String
  | "InvalidNumber" => ["InvalidNumber", "ShotError", "ValueError"]
  | "InvalidShot" => ["InvalidShot", "ShotError", "ValueError"]
  | "InvalidSide" => ["InvalidSide", "ShotError", "ValueError"]
  | "InvalidTable" => ["InvalidTable", "ShotError", "ValueError"]
  | "InvalidTime" => ["InvalidTime", "ShotError", "ValueError"]
  | _ => []
def isSub (c T : String) : Bool := (anc c).contains T
structure G (K : PySem.W.Frag) (mg : Str → Option Value) (CN : String → Option Addr) : Prop where
  b_ValueError : mg "ValueError" = none
  b_abs : mg "abs" = none
  b_all : mg "all" = none
  b_bool : mg "bool" = none
  b_gcd : mg "gcd" = some (.builtin "math.gcd")
  b_int : mg "int" = none
  b_isinstance : mg "isinstance" = none
  b_len : mg "len" = none
  b_list : mg "list" = none
  b_max : mg "max" = none
  b_min : mg "min" = none
  b_range : mg "range" = none
  b_tuple : mg "tuple" = none
  x_InvalidNumber : ∃ c, CN "InvalidNumber" = some c ∧ ExcCls K mg "InvalidNumber" c
  x_InvalidShot : ∃ c, CN "InvalidShot" = some c ∧ ExcCls K mg "InvalidShot" c
  x_InvalidSide : ∃ c, CN "InvalidSide" = some c ∧ ExcCls K mg "InvalidSide" c
  x_InvalidTable : ∃ c, CN "InvalidTable" = some c ∧ ExcCls K mg "InvalidTable" c
  x_InvalidTime : ∃ c, CN "InvalidTime" = some c ∧ ExcCls K mg "InvalidTime" c
  ec : ∀ c A, CN c = some A → ExcC K A
  kt_InvalidNumber : ∃ C, mg "InvalidNumber" = some (.ref C) ∧ ∀ c A, CN c = some A → PySem.W.kitOne K (.ref A) (.ref C) = some (isSub c "InvalidNumber")
  kt_InvalidShot : ∃ C, mg "InvalidShot" = some (.ref C) ∧ ∀ c A, CN c = some A → PySem.W.kitOne K (.ref A) (.ref C) = some (isSub c "InvalidShot")
  kt_InvalidSide : ∃ C, mg "InvalidSide" = some (.ref C) ∧ ∀ c A, CN c = some A → PySem.W.kitOne K (.ref A) (.ref C) = some (isSub c "InvalidSide")
  kt_InvalidTable : ∃ C, mg "InvalidTable" = some (.ref C) ∧ ∀ c A, CN c = some A → PySem.W.kitOne K (.ref A) (.ref C) = some (isSub c "InvalidTable")
  kt_InvalidTime : ∃ C, mg "InvalidTime" = some (.ref C) ∧ ∀ c A, CN c = some A → PySem.W.kitOne K (.ref A) (.ref C) = some (isSub c "InvalidTime")
  kb_ValueError : ∀ c A, CN c = some A → PySem.W.kitOne K (.ref A) (.type "ValueError") = some (isSub c "ValueError")
  h_ShotError : ∃ hc, mg "ShotError" = some hc ∧ ∀ c A, CN c = some A → PySem.W.exmOne K (.ref A) hc = some (isSub c "ShotError")
section
variable {P : Program} {w : World} {K : PySem.W.Frag} {mg : Str → Option Value} {base : Heap} {CN : String → Option Addr}
theorem ok_draw {f : Addr} {fd : FuncData} (F : Fun K "_law_draw" "_law_draw" s__law_draw f fd) (mi : mg "int" = none) : FnG P w K mg base 1 f fd ["well", "most"] (spW K dDraw) := by
  refine fun_okG F sc__law_draw (fun vs H Q E h => ?_) (fun cdv A outer s H vs Q E hr h => ⟨_, pss_cons (ps_if (pt_cmpR op_gt (pe_ix ix_list (pv 0) pe_int (fun _ _ => rfl)) pe_int (nomark _))
        (pss_cons (ps_set (i := 2) sc__law_draw.nd rfl (.inl rfl) (pe_op op_mod (pe_callTy cr_int (by rfl) mi (by decide +kernel) (pa_cons (pe_ix ix_list (pv 0) pe_int (fun _ _ => rfl)) pa_nil)) (pv 1)))
        (pss_cons (ps_asg (pe_op op_fdivW (pe_ix ix_list (pv 0) pe_int (fun _ _ => rfl)) (pv 1)) (pg_sub (pv 0) pe_int set_list))
        (pss_one (ps_ret (pv 2))))) pss_nil)
      (pss_cons (ps_asg (pe_op op_add (pe_ix ix_list (pv 0) pe_int (fun _ _ => rfl)) pe_int) (pg_sub (pv 0) pe_int set_list))
      (pss_cons (ps_set (i := 3) sc__law_draw.nd rfl (.inl rfl) (pe_op op_mod (pe_op op_powW (pe_callTy cr_int (by rfl) mi (by decide +kernel) (pa_cons (pe_op op_add (pe_ix ix_list (pv 0) pe_int (fun _ _ => rfl)) (pe_op op_mulW pe_int (pe_ix ix_list (pv 0) pe_int (fun _ _ => rfl)))) pa_nil)) pe_int) (pe_op op_add (pe_op op_powW pe_int pe_int) pe_int)))
      (pss_cons (ps_set (i := 3) sc__law_draw.nd rfl (.inl rfl) (pe_op op_mod (pe_op op_powW (pe_callTy cr_int (by rfl) mi (by decide +kernel) (pa_cons (pe_op op_add (pv 3) (pe_op op_mulW pe_int (pe_ix ix_list (pv 0) pe_int (fun _ _ => rfl)))) pa_nil)) pe_int) (pe_op op_add (pe_op op_powW pe_int pe_int) pe_int)))
      (pss_one (ps_ret (pe_op op_mod (pe_callTy cr_int (by rfl) mi (by decide +kernel) (pa_cons (pe_op op_fdivW (pv 3) pe_int) pa_nil)) (pv 1))))))), ?_⟩)
  · obtain ⟨F0, p, ws, n, a, b, c, ds, Qd, rfl, _, _, _, _, r, ⟨m, rfl, _⟩, _⟩ := h
    obtain ⟨x, rfl, _⟩ := rpA1 r
    rfl
  · obtain ⟨F0, p, ws, n, a, b, c, ds, Qd, rfl, e, hF, hp, hw, r, ⟨m, rfl, h1, h2, h3, h4⟩, hq⟩ := h
    obtain ⟨x, rfl, rx⟩ := rpA1 r
    cases rx
    have ne : ∀ q o, F0 q = some o → q ≠ p := fun q o z y => by subst y; rw [hF] at z; cases z
    have fin : ∀ (a' b' c' r : Int), WellOk (n - 1) a' b' c' → 0 ≤ r → r < m → ∀ H', (∀ q, q ≠ p → H' q = H q) → H' p = some (.lst [.int a', .int b', .int c']) → Q (.int r) H' := fun a' b' c' r ok r0 r1 H' hn hs =>
      hq (.int r) H' F0 (.va (.int r)) (n - 1) ⟨Same.refl _, fun q o z => (hn q (ne q o z)).trans (e q o z), fun q o z y => (hn q z).trans y, fun q o z => .inl z, a', b', c', hs, ok⟩ (.int r) (h4 r r0 r1)
    have hL : SqL K H p [.int a, .int b, .int c] := .inl (.inl hp)
    refine ⟨.ref p, rfl, p, _, 0, .int a, rfl, rfl, hL, rfl, a, 0, rfl, rfl, decide (0 < a), rfl, ?_⟩
    refine ite2 (fun ha => ?_) (fun ha => ?_)
    · have ha : 0 < a := of_decide_eq_true ha
      refine ⟨.ref p, rfl, p, _, 0, .int a, rfl, rfl, hL, rfl, a, rfl, .int m, rfl, a, m, rfl, rfl, by show (0 : Int) < m; omega, ?_⟩
      refine ⟨.ref p, rfl, p, _, 0, .int a, rfl, rfl, hL, rfl, .int m, rfl, a, m, rfl, rfl, ⟨by show (0 : Int) < m; omega, h3⟩, ?_⟩
      refine ⟨.ref p, rfl, p, _, 0, 0, rfl, rfl, hp, rfl, ?_⟩
      refine ⟨.int (a % m), rfl, ?_⟩
      refine fin (a / m) b c (a % m) ?_ (Int.emod_nonneg _ (by omega)) (Int.emod_lt_of_pos _ (by omega)) _ (fun q hq => upd_ne hq) upd_same
      refine ⟨Int.ediv_nonneg hw.a0 (by omega), ?_, hw.b0, hw.b1, hw.c0, by have := hw.c1; omega⟩
      refine Nat.lt_of_le_of_lt ?_ hw.a1
      have h5 : a / m ≤ a := Int.ediv_le_self m hw.a0
      have h6 : 0 ≤ a / m := Int.ediv_nonneg hw.a0 (by omega)
      omega
    · refine ⟨.ref p, rfl, p, _, 2, .int c, rfl, rfl, hL, rfl, c, 1, rfl, rfl, ?_⟩
      refine ⟨.ref p, rfl, p, _, 2, 2, rfl, rfl, hp, rfl, ?_⟩
      have hL2 : SqL K (upd H p (.lst [.int a, .int b, .int (c + 1)])) p [.int a, .int b, .int (c + 1)] := .inl (.inl upd_same)
      have c0 := hw.c0
      have c1 := hw.c1
      have b0 := hw.b0
      have b1 := hw.b1
      have big : ∀ z : Int, 0 ≤ z → z < 2 ^ 200 → z.natAbs < 2 ^ 10000 := fun z z0 z1 => by
        have : z.natAbs < 2 ^ 200 := by omega
        exact Nat.lt_of_lt_of_le this (Nat.pow_le_pow_right (by decide) (by decide))
      have lg : ∀ z : Int, 0 ≤ z → z < 2 ^ 200 → z.natAbs.log2 < 400 := fun z z0 z1 => by
        by_cases hz : z.natAbs = 0
        · rw [hz]; decide
        · refine (Nat.log2_lt hz).mpr ?_
          have : z.natAbs < 2 ^ 200 := by omega
          exact Nat.lt_of_lt_of_le this (Nat.pow_le_pow_right (by decide) (by decide))
      refine ⟨.ref p, rfl, p, _, 1, .int b, rfl, rfl, hL2, rfl, .ref p, rfl, p, _, 2, .int (c + 1), rfl, rfl, hL2, rfl, _, _, rfl, rfl, ?_, _, _, rfl, rfl, _, rfl, _, _, rfl, rfl, ⟨by decide, by decide, ?_⟩, _, _, rfl, rfl, ⟨by decide, by decide, big 10 (by decide) (by decide)⟩, _, _, rfl, rfl, _, _, rfl, rfl, ?_, ?_⟩
      · show (961748941 : Int).natAbs.log2 + (c + 1).natAbs.log2 < 1000000
        have q1 : (961748941 : Int).natAbs.log2 = 29 := by decide +kernel
        have q2 := lg (c + 1) (by omega) (by omega)
        rw [q1]; omega
      · exact big _ (by omega) (by omega)
      · show (0 : Int) < 10 ^ Int.toNat 41 + 109
        decide +kernel
      · have y0 : 0 ≤ (b + 961748941 * (c + 1)) ^ Int.toNat 3 % (10 ^ Int.toNat 41 + 109) := Int.emod_nonneg _ (by decide +kernel)
        have y1 : (b + 961748941 * (c + 1)) ^ Int.toNat 3 % (10 ^ Int.toNat 41 + 109) < 2 ^ 150 := Int.lt_trans (Int.emod_lt_of_pos _ (by decide +kernel)) (by decide +kernel)
        show gName 3 (.int ((b + 961748941 * (c + 1)) ^ Int.toNat 3 % (10 ^ Int.toNat 41 + 109))) _ _ _
        generalize (b + 961748941 * (c + 1)) ^ Int.toNat 3 % (10 ^ Int.toNat 41 + 109) = y at y0 y1 ⊢
        refine ⟨.int y, rfl, .ref p, rfl, p, _, 2, .int (c + 1), rfl, rfl, hL2, rfl, _, _, rfl, rfl, ?_, _, _, rfl, rfl, _, rfl, _, _, rfl, rfl, ⟨by decide, by decide, ?_⟩, _, _, rfl, rfl, ⟨by decide, by decide, ?_⟩, _, _, rfl, rfl, _, _, rfl, rfl, ?_, ?_⟩
        · show (217645199 : Int).natAbs.log2 + (c + 1).natAbs.log2 < 1000000
          have q1 : (217645199 : Int).natAbs.log2 = 27 := by decide +kernel
          have q2 := lg (c + 1) (by omega) (by omega)
          rw [q1]; omega
        · exact big _ (by omega) (by omega)
        · show (10 : Int).natAbs < 2 ^ 10000
          exact big 10 (by decide) (by decide)
        · show (0 : Int) < 10 ^ Int.toNat 39 + 3
          decide +kernel
        · show gName 3 (.int ((y + 217645199 * (c + 1)) ^ Int.toNat 3 % (10 ^ Int.toNat 39 + 3))) _ _ _
          generalize (y + 217645199 * (c + 1)) ^ Int.toNat 3 % (10 ^ Int.toNat 39 + 3) = z
          refine ⟨.int z, rfl, _, _, rfl, rfl, ⟨by decide, by decide +kernel⟩, _, rfl, .int m, rfl, _, _, rfl, rfl, by show (0 : Int) < m; omega, ?_⟩
          exact fin a b (c + 1) _ ⟨hw.a0, hw.a1, b0, b1, by omega, by omega⟩ (Int.emod_nonneg _ (by omega)) (Int.emod_lt_of_pos _ (by omega)) _ (fun q hq => upd_ne hq) upd_same
theorem ok_well {f : Addr} {fd : FuncData} (F : Fun K "_law_well" "_law_well" s__law_well f fd) (mi : mg "int" = none) (ml : mg "len" = none) (mm : mg "max" = none) (ma : mg "abs" = none) : FnG P w K mg base 1 f fd ["script", "at"] (spWell K) := by
  refine fun_okG F sc__law_well (fun vs H Q E h => ?_) (fun cdv A outer s H vs Q E hr h => ⟨_, pss_cons (ps_set (i := 2) sc__law_well.nd rfl (.inl rfl) (pe_ifExp (pt_cmpR op_lt (pv 1) (pe_callB call_len_seq (by rfl) ml (by decide +kernel) (pa_cons (pv 0) pa_nil)) (nomark _)) (pe_ix ix_list (pv 0) (pv 1) (fun _ _ => rfl)) pe_int))
      (pss_one (ps_ret (pe_lst (pa_cons (pe_callB (call_max2 rfl) (by rfl) mm (by decide +kernel) (pa_cons pe_int (pa_cons (pe_op op_sub (pe_callB call_abs (by rfl) ma (by decide +kernel) (pa_cons (pv 2) pa_nil)) (pe_op op_powW pe_int pe_int)) pa_nil)))
        (pa_cons (pe_op op_add (pe_op op_add (pe_op op_mulW (pe_op op_mod (pe_callTy cr_int (by rfl) mi (by decide +kernel) (pa_cons (pv 2) pa_nil)) (pe_op op_add (pe_op op_powW pe_int pe_int) pe_int)) pe_int) (pe_op op_mulW pe_int (pv 1))) pe_int) (pa_cons pe_int pa_nil)))))), ?_⟩)
  · obtain ⟨a, ns, k, rfl, _⟩ := h
    rfl
  · obtain ⟨a, ns, k, rfl, hS, hl, hb, k0, k1, q⟩ := h
    have lg : ∀ z : Int, 0 ≤ z → z < 2 ^ 200 → z.natAbs.log2 < 400 := fun z z0 z1 => by
      by_cases hz : z.natAbs = 0
      · rw [hz]; decide
      · refine (Nat.log2_lt hz).mpr ?_
        have : z.natAbs < 2 ^ 200 := by omega
        exact Nat.lt_of_lt_of_le this (Nat.pow_le_pow_right (by decide) (by decide))
    have wide : ∀ {z : Int}, Builtin.Int.intBits z ≤ 1048576 → z.natAbs < 2 ^ 1100000 := fun {z} hz => by
      unfold Builtin.Int.intBits at hz
      by_cases h0 : z.natAbs = 0
      · rw [h0]; exact Nat.pow_pos (by decide)
      · have h00 : (z == 0) = false := by
          have : z ≠ 0 := by omega
          simpa using this
        rw [h00] at hz
        have h1 : z.natAbs.log2 + 1 ≤ 1048576 := hz
        have := (Nat.log2_lt h0 (k := 1048576)).mp (by omega)
        exact Nat.lt_of_lt_of_le this (Nat.pow_le_pow_right (by decide) (by decide))
    have big10 : (10 : Int).natAbs < 2 ^ 10000 := Nat.lt_of_lt_of_le (show (10 : Int).natAbs < 2 ^ 200 by decide +kernel) (Nat.pow_le_pow_right (by decide) (by decide))
    refine ⟨.int k, rfl, .ref a, rfl, a, _, rfl, .inl hS, k, (ns.length : Int), rfl, by simp, decide (k < ns.length), rfl, ?_⟩
    refine ite2 (fun hk => ?_) (fun hk => ?_)
    · have hk : k < ns.length := of_decide_eq_true hk
      have hb2 := hb (ns[k.toNat]'(by omega)) (List.getElem_mem _)
      have hg : (ns.map V.int)[k.toNat]? = some (.int (ns[k.toNat]'(by omega))) := by
        rw [List.getElem?_map, List.getElem?_eq_getElem (by omega)]
        rfl
      generalize ns[k.toNat]'(by omega) = z at hb2 hg
      have hz := hb2
      refine ⟨.ref a, rfl, .int k, rfl, a, _, k, .int z, rfl, rfl, hS, ?_, ?_⟩
      · have e := atI_nat hg
        rwa [Int.toNat_of_nonneg k0] at e
      refine ⟨.int z, rfl, z, rfl, _, _, rfl, rfl, ⟨by decide, by decide, big10⟩, _, _, rfl, rfl, _, _, rfl, ?_⟩
      refine ⟨.int z, rfl, z, rfl, _, _, rfl, rfl, ⟨by decide, by decide, big10⟩, _, _, rfl, rfl, _, _, rfl, rfl, by show (0 : Int) < 10 ^ Int.toNat 37 + 151; decide +kernel, _, _, rfl, rfl, ?_, .int k, rfl, _, _, rfl, rfl, ?_, _, _, rfl, rfl, _, _, rfl, rfl, by show 3 ≤ sizeLine; decide, fun p hp => ?_⟩
      · show (z % (10 ^ Int.toNat 37 + 151)).natAbs.log2 + (103 : Int).natAbs.log2 < 1000000
        have q1 : (103 : Int).natAbs.log2 = 6 := by decide +kernel
        have q2 := lg (z % (10 ^ Int.toNat 37 + 151)) (Int.emod_nonneg _ (by decide +kernel)) (Int.lt_trans (Int.emod_lt_of_pos _ (by decide +kernel)) (by decide +kernel))
        rw [q1]; omega
      · show (71 : Int).natAbs.log2 + k.natAbs.log2 < 1000000
        have q1 : (71 : Int).natAbs.log2 = 6 := by decide +kernel
        have q2 := lg k k0 (by omega)
        rw [q1]; omega
      · refine q _ p _ _ _ (fun b o e => (upd_ne (ne_of_none e hp)).trans e) hp upd_same ?_
        have m0 : 0 ≤ z % (10 ^ Int.toNat 37 + 151) := Int.emod_nonneg _ (by decide +kernel)
        have m1 : z % (10 ^ Int.toNat 37 + 151) < 2 ^ 130 := Int.lt_trans (Int.emod_lt_of_pos _ (by decide +kernel)) (by decide +kernel)
        have e18 : (10 : Int) ^ Int.toNat 18 = 1000000000000000000 := by decide +kernel
        refine ⟨?_, ?_, ?_, ?_, by decide, by decide⟩
        · split <;> omega
        · refine Nat.lt_of_le_of_lt ?_ (wide hz)
          rw [e18]
          split <;> split at * <;> omega
        · omega
        · omega
    · have hz : Builtin.Int.intBits 0 ≤ 1048576 := by decide
      show gName 2 (.int 0) _ _ _
      refine ⟨.int 0, rfl, (0 : Int), rfl, _, _, rfl, rfl, ⟨by decide, by decide, big10⟩, _, _, rfl, rfl, _, _, rfl, ?_⟩
      refine ⟨.int 0, rfl, (0 : Int), rfl, _, _, rfl, rfl, ⟨by decide, by decide, big10⟩, _, _, rfl, rfl, _, _, rfl, rfl, by show (0 : Int) < 10 ^ Int.toNat 37 + 151; decide +kernel, _, _, rfl, rfl, ?_, .int k, rfl, _, _, rfl, rfl, ?_, _, _, rfl, rfl, _, _, rfl, rfl, by show 3 ≤ sizeLine; decide, fun p hp => ?_⟩
      · show ((0 : Int) % (10 ^ Int.toNat 37 + 151)).natAbs.log2 + (103 : Int).natAbs.log2 < 1000000
        have q1 : (103 : Int).natAbs.log2 = 6 := by decide +kernel
        have q2 := lg ((0 : Int) % (10 ^ Int.toNat 37 + 151)) (Int.emod_nonneg _ (by decide +kernel)) (Int.lt_trans (Int.emod_lt_of_pos _ (by decide +kernel)) (by decide +kernel))
        rw [q1]; omega
      · show (71 : Int).natAbs.log2 + k.natAbs.log2 < 1000000
        have q1 : (71 : Int).natAbs.log2 = 6 := by decide +kernel
        have q2 := lg k k0 (by omega)
        rw [q1]; omega
      · refine q _ p _ _ _ (fun b o e => (upd_ne (ne_of_none e hp)).trans e) hp upd_same ?_
        have m0 : 0 ≤ (0 : Int) % (10 ^ Int.toNat 37 + 151) := Int.emod_nonneg _ (by decide +kernel)
        have m1 : (0 : Int) % (10 ^ Int.toNat 37 + 151) < 2 ^ 130 := Int.lt_trans (Int.emod_lt_of_pos _ (by decide +kernel)) (by decide +kernel)
        have e18 : (10 : Int) ^ Int.toNat 18 = 1000000000000000000 := by decide +kernel
        refine ⟨?_, ?_, ?_, ?_, by decide, by decide⟩
        · split <;> omega
        · refine Nat.lt_of_le_of_lt ?_ (wide hz)
          rw [e18]
          split <;> split at * <;> omega
        · omega
        · omega
end
def fracD (t b : Int) : PyData := .tuple [.int (t / (Nat.gcd t.natAbs b.natAbs : Nat)), .int (b / (Nat.gcd t.natAbs b.natAbs : Nat))]
theorem gcd_pos {t b : Int} (h : 1 ≤ b) : (0 : Int) < (Nat.gcd t.natAbs b.natAbs : Nat) := by
  have := Nat.gcd_pos_of_pos_right t.natAbs (show 0 < b.natAbs by omega)
  omega
theorem sz_gcd {t b : Int} {k : Nat} (h : 1 ≤ b) (hb : sz k b) : sz k (Nat.gcd t.natAbs b.natAbs : Nat) := by
  refine sz_le hb ?_
  rw [Int.natAbs_natCast]
  exact Nat.gcd_le_right _ (by omega)
theorem div_gcd_pos {t b : Int} (h : 1 ≤ b) : 1 ≤ b / (Nat.gcd t.natAbs b.natAbs : Nat) := by
  have g0 := gcd_pos (t := t) h
  have hd : ((Nat.gcd t.natAbs b.natAbs : Nat) : Int) ∣ b := by
    have := Nat.gcd_dvd_right t.natAbs b.natAbs
    exact Int.ofNat_dvd_left.mpr this
  have := Int.ediv_pos_of_pos_of_dvd (show 0 < b by omega) (by omega) hd
  omega
def lineA (v a : Int) : Int := if v < 0 then -a else a
def lineV (v : Int) : Int := if v < 0 then -v else v
theorem int_repr {i : Int} (h : sz 200 i) : i.natAbs.log2 < 1920 ∧ (PyData.shown (.int i)).length ≤ 70 ∧ PyData.weight (.int i) ≤ 210 := by
  have lg := sz_log h
  refine ⟨by omega, ?_, ?_⟩
  · have e := int_text_length_le10 (a := i) (k := 69) (by decide) (Nat.lt_trans h (by decide))
    show (Str.ofString (toString i)).length ≤ 70
    rw [PySem.ofString_length]
    exact e
  · simp only [PyData.weight]
    split <;> omega
theorem repr_two {a b x y p q : Int} (za : sz 200 a) (zb : sz 200 b) (zx : sz 200 x) (zy : sz 200 y) (zp : sz 200 p) (zq : sz 200 q) : reprOk (.list [.tuple [.int a, .int b], .tuple [.int x, .int y, .int p, .int q]]) = true := by
  obtain ⟨a1, a2, a3⟩ := int_repr za
  obtain ⟨b1, b2, b3⟩ := int_repr zb
  obtain ⟨x1, x2, x3⟩ := int_repr zx
  obtain ⟨y1, y2, y3⟩ := int_repr zy
  obtain ⟨p1, p2, p3⟩ := int_repr zp
  obtain ⟨q1, q2, q3⟩ := int_repr zq
  have hl : (PyData.list [.tuple [.int a, .int b], .tuple [.int x, .int y, .int p, .int q]]).leavesShort 70 = true := by
    simp only [PyData.leavesShort, PyData.leavesShortAll, decide_eq_true a2, decide_eq_true b2, decide_eq_true x2, decide_eq_true y2, decide_eq_true p2, decide_eq_true q2, Bool.and_true]
  have hw : (PyData.list [.tuple [.int a, .int b], .tuple [.int x, .int y, .int p, .int q]]).weight ≤ 2000 := by
    have e : ∀ z : Int, PyData.weight (.int z) = PyData.weight (.int z) := fun _ => rfl
    generalize ha : PyData.weight (.int a) = wa at *
    generalize hb : PyData.weight (.int b) = wb at *
    generalize hx : PyData.weight (.int x) = wx at *
    generalize hy : PyData.weight (.int y) = wy at *
    generalize hp : PyData.weight (.int p) = wp at *
    generalize hq : PyData.weight (.int q) = wq at *
    have w : (PyData.list [.tuple [.int a, .int b], .tuple [.int x, .int y, .int p, .int q]]).weight = PyData.weightAll [.int a, .int b] + 1 + (PyData.weightAll [.int x, .int y, .int p, .int q] + 1 + 0) := by rw [PyData.weight, PyData.weightAll, PyData.weightAll, PyData.weightAll, PyData.weight, PyData.weight]
    rw [w]
    simp only [PyData.weightAll, ha, hb, hx, hy, hp, hq]
    omega
  have h := PyData.shown_le 70 (by decide) _ hl
  have hs : (PyData.list [.tuple [.int a, .int b], .tuple [.int x, .int y, .int p, .int q]]).shown.length ≤ 1000000 := by omega
  have hd : (PyData.list [.tuple [.int a, .int b], .tuple [.int x, .int y, .int p, .int q]]).depth ≤ 64 := by simp [PyData.depth, PyData.depthAll]
  have hsh : (PyData.list [.tuple [.int a, .int b], .tuple [.int x, .int y, .int p, .int q]]).showable = true := by
    simp only [PyData.showable, PyData.showableAll, decide_eq_true a1, decide_eq_true b1, decide_eq_true x1, decide_eq_true y1, decide_eq_true p1, decide_eq_true q1, Bool.and_true]
  unfold reprOk
  rw [decide_eq_true hs, decide_eq_true hd, hsh]
  rfl
theorem repr_three {a b x y p q u v r s : Int} (za : sz 200 a) (zb : sz 200 b) (zx : sz 200 x) (zy : sz 200 y) (zp : sz 200 p) (zq : sz 200 q) (zu : sz 200 u) (zv : sz 200 v) (zr : sz 200 r) (zs : sz 200 s) : reprOk (.list [.tuple [.int a, .int b], .tuple [.int x, .int y, .int p, .int q], .tuple [.int u, .int v, .int r, .int s]]) = true := by
  obtain ⟨a1, a2, a3⟩ := int_repr za
  obtain ⟨b1, b2, b3⟩ := int_repr zb
  obtain ⟨x1, x2, x3⟩ := int_repr zx
  obtain ⟨y1, y2, y3⟩ := int_repr zy
  obtain ⟨p1, p2, p3⟩ := int_repr zp
  obtain ⟨q1, q2, q3⟩ := int_repr zq
  obtain ⟨u1, u2, u3⟩ := int_repr zu
  obtain ⟨v1, v2, v3⟩ := int_repr zv
  obtain ⟨r1, r2, r3⟩ := int_repr zr
  obtain ⟨s1, s2, s3⟩ := int_repr zs
  have hl : (PyData.list [.tuple [.int a, .int b], .tuple [.int x, .int y, .int p, .int q], .tuple [.int u, .int v, .int r, .int s]]).leavesShort 70 = true := by
    simp only [PyData.leavesShort, PyData.leavesShortAll, decide_eq_true a2, decide_eq_true b2, decide_eq_true x2, decide_eq_true y2, decide_eq_true p2, decide_eq_true q2, decide_eq_true u2, decide_eq_true v2, decide_eq_true r2, decide_eq_true s2, Bool.and_true]
  have hw : (PyData.list [.tuple [.int a, .int b], .tuple [.int x, .int y, .int p, .int q], .tuple [.int u, .int v, .int r, .int s]]).weight ≤ 3000 := by
    have e : ∀ z : Int, PyData.weight (.int z) = PyData.weight (.int z) := fun _ => rfl
    generalize ha : PyData.weight (.int a) = wa at *
    generalize hb : PyData.weight (.int b) = wb at *
    generalize hx : PyData.weight (.int x) = wx at *
    generalize hy : PyData.weight (.int y) = wy at *
    generalize hp : PyData.weight (.int p) = wp at *
    generalize hq : PyData.weight (.int q) = wq at *
    generalize hu : PyData.weight (.int u) = wu at *
    generalize hv : PyData.weight (.int v) = wv at *
    generalize hr : PyData.weight (.int r) = wr at *
    generalize hs : PyData.weight (.int s) = ws at *
    have w : (PyData.list [.tuple [.int a, .int b], .tuple [.int x, .int y, .int p, .int q], .tuple [.int u, .int v, .int r, .int s]]).weight = PyData.weightAll [.int a, .int b] + 1 + (PyData.weightAll [.int x, .int y, .int p, .int q] + 1 + (PyData.weightAll [.int u, .int v, .int r, .int s] + 1 + 0)) := by rw [PyData.weight, PyData.weightAll, PyData.weightAll, PyData.weightAll, PyData.weightAll, PyData.weight, PyData.weight, PyData.weight]
    rw [w]
    simp only [PyData.weightAll, ha, hb, hx, hy, hp, hq, hu, hv, hr, hs]
    omega
  have h := PyData.shown_le 70 (by decide) _ hl
  have hs' : (PyData.list [.tuple [.int a, .int b], .tuple [.int x, .int y, .int p, .int q], .tuple [.int u, .int v, .int r, .int s]]).shown.length ≤ 1000000 := by omega
  have hd : (PyData.list [.tuple [.int a, .int b], .tuple [.int x, .int y, .int p, .int q], .tuple [.int u, .int v, .int r, .int s]]).depth ≤ 64 := by simp [PyData.depth, PyData.depthAll]
  have hsh : (PyData.list [.tuple [.int a, .int b], .tuple [.int x, .int y, .int p, .int q], .tuple [.int u, .int v, .int r, .int s]]).showable = true := by
    simp only [PyData.showable, PyData.showableAll, decide_eq_true a1, decide_eq_true b1, decide_eq_true x1, decide_eq_true y1, decide_eq_true p1, decide_eq_true q1, decide_eq_true u1, decide_eq_true v1, decide_eq_true r1, decide_eq_true s1, Bool.and_true]
  unfold reprOk
  rw [decide_eq_true hs', decide_eq_true hd, hsh]
  rfl
theorem gcd_dvd_l (t m : Int) : ((Nat.gcd t.natAbs m.natAbs : Nat) : Int) ∣ t := Int.ofNat_dvd_left.mpr (Nat.gcd_dvd_left _ _)
theorem gcd_dvd_r (t m : Int) : ((Nat.gcd t.natAbs m.natAbs : Nat) : Int) ∣ m := Int.ofNat_dvd_left.mpr (Nat.gcd_dvd_right _ _)
theorem fracD_inj {t1 t2 b : Int} (hb : 1 ≤ b) (h : fracD t1 b = fracD t2 b) : t1 = t2 := by
  unfold fracD at h
  simp only [PyData.tuple.injEq, List.cons.injEq, PyData.int.injEq, and_true] at h
  obtain ⟨h1, h2⟩ := h
  have g1 := gcd_pos (t := t1) hb
  have g2 := gcd_pos (t := t2) hb
  have a1 := Int.ediv_mul_cancel (gcd_dvd_l t1 b)
  have a2 := Int.ediv_mul_cancel (gcd_dvd_r t1 b)
  have b1 := Int.ediv_mul_cancel (gcd_dvd_l t2 b)
  have b2 := Int.ediv_mul_cancel (gcd_dvd_r t2 b)
  generalize ((Nat.gcd t1.natAbs b.natAbs : Nat) : Int) = u at *
  generalize ((Nat.gcd t2.natAbs b.natAbs : Nat) : Int) = v at *
  have hd : 0 < b / u := by
    by_cases c : 0 < b / u
    · exact c
    · have : b / u * u ≤ 0 * u := Int.mul_le_mul_of_nonneg_right (by omega) (by omega)
      omega
  have e : u = v := by
    rw [← h2] at b2
    have : b / u * u = b / u * v := by omega
    exact Int.eq_of_mul_eq_mul_left (by omega) this
  rw [← a1, ← b1, h1, e]
theorem low_facts {t m : Int} (hm : 1 ≤ m) : (t / (Nat.gcd t.natAbs m.natAbs : Nat)) * m = t * (m / (Nat.gcd t.natAbs m.natAbs : Nat)) ∧ 1 ≤ m / (Nat.gcd t.natAbs m.natAbs : Nat) ∧ Nat.gcd (t / (Nat.gcd t.natAbs m.natAbs : Nat)).natAbs (m / (Nat.gcd t.natAbs m.natAbs : Nat)).natAbs = 1 := by
  have g0 := gcd_pos (t := t) hm
  have e1 := Int.ediv_mul_cancel (gcd_dvd_l t m)
  have e2 := Int.ediv_mul_cancel (gcd_dvd_r t m)
  refine ⟨?_, div_gcd_pos hm, ?_⟩
  · generalize t / (Nat.gcd t.natAbs m.natAbs : Nat) = T at *
    generalize m / (Nat.gcd t.natAbs m.natAbs : Nat) = B at *
    generalize ((Nat.gcd t.natAbs m.natAbs : Nat) : Int) = g at *
    rw [← e1, ← e2]
    simp only [Int.mul_assoc, Int.mul_comm, Int.mul_left_comm]
  · have n1 : (t / (Nat.gcd t.natAbs m.natAbs : Nat)).natAbs = t.natAbs / Nat.gcd t.natAbs m.natAbs := by
      rw [Int.natAbs_ediv_of_dvd (gcd_dvd_l t m), Int.natAbs_natCast]
    have n2 : (m / (Nat.gcd t.natAbs m.natAbs : Nat)).natAbs = m.natAbs / Nat.gcd t.natAbs m.natAbs := by
      rw [Int.natAbs_ediv_of_dvd (gcd_dvd_r t m), Int.natAbs_natCast]
    rw [n1, n2]
    exact Nat.gcd_div_gcd_div_gcd_of_pos_right (show 0 < m.natAbs by omega)
theorem low_unique {X B r b : Int} (hB : 1 ≤ B) (hb : 1 ≤ b) (hc : Nat.gcd r.natAbs b.natAbs = 1) (e : r * B = X * b) : fracD X B = .tuple [.int r, .int b] := by
  have hd : b.natAbs ∣ B.natAbs := by
    have h1 : b.natAbs ∣ r.natAbs * B.natAbs := by
      rw [← Int.natAbs_mul, e, Int.natAbs_mul]
      exact Nat.dvd_mul_left _ _
    refine Nat.Coprime.dvd_of_dvd_mul_left (k := b.natAbs) (m := r.natAbs) (n := B.natAbs) ?_ h1
    rw [Nat.Coprime, Nat.gcd_comm]
    exact hc
  obtain ⟨c, hcB⟩ := Int.natAbs_dvd_natAbs.mp hd
  have hc0 : 0 < c := by
    by_cases h : 0 < c
    · exact h
    · have : b * c ≤ b * 0 := Int.mul_le_mul_of_nonneg_left (by omega) (by omega)
      omega
  have eX : X = r * c := by
    rw [hcB] at e
    have e2 : (r * c) * b = X * b := by rw [← e]; simp only [Int.mul_assoc, Int.mul_comm, Int.mul_left_comm]
    exact (Int.eq_of_mul_eq_mul_right (by omega) e2).symm
  have hg : Nat.gcd X.natAbs B.natAbs = c.natAbs := by
    rw [eX, hcB, Int.natAbs_mul, Int.natAbs_mul, Nat.gcd_mul_right, hc, Nat.one_mul]
  have ec : ((c.natAbs : Nat) : Int) = c := by omega
  unfold fracD
  rw [hg, ec, eX, hcB, Int.mul_ediv_cancel _ (by omega), Int.mul_ediv_cancel _ (by omega)]
def foldI (s t b : Int) : Int := if t % (2 * s * b) ≤ s * b then t % (2 * s * b) else 2 * s * b - t % (2 * s * b)
end LW
namespace LW
open PySem PySem.Spec PyProof.Rows L2 DL
def m_is_whole (W : WD) : MS :=
  mRet (mrOf (mAnd (mOp1 (bIsi [.kInt]) (mVar 0)) (mNot (mOp1 (bIsi [.kBool]) (mVar 0)))))
def isInt : PyData → Bool
  | .int _ => true
  | _ => false
def D_is_whole : PSpec := fun ds Q _ => ∃ d, ds = [d] ∧ Q (.va (.bool (isInt d)))
theorem len_is_whole : ∀ ds Q E, D_is_whole ds Q E → ds.length = 1 := by
  rintro _ Q E ⟨d, rfl, _⟩
  rfl
theorem rd_is_whole : ∀ ds Q E, D_is_whole ds Q E → m_is_whole (fun c _ => E c) (endP Q) (slots0 1 ds) := by
  rintro _ Q E ⟨d, rfl, q⟩
  unfold m_is_whole
  simp only [DL.mSeq, DL.mAsg, DL.mAsgR, DL.mAsgM, DL.mrs, DL.ssets, DL.mIf, DL.mRet, DL.mRetN, DL.mrOf, DL.mrLst, DL.mrCat, DL.mrCall, DL.mDrop, DL.mNext, DL.mBreak, DL.mCont, DL.mC, DL.mVar, DL.mOp2, DL.mOp1, DL.mAnd, DL.mOr, DL.mNot, DL.mIfE, DL.mChain, DL.mNil, DL.mCons, DL.mTup, DL.mLst, DL.mCallB, DL.mDict0, DL.mPart, DL.mNoPart, DL.mSl, DL.mCall, DL.mCallK, DL.mCallW, DL.mLenScr, DL.mWell, DL.mT, DL.mTAnd, DL.mTOr, DL.mTNot, DL.mTYes, DL.mgName, DL.mgNil, DL.mgCons, DL.mgTup, DL.miSeq, DL.miRng1, DL.miRng2, DL.mRaise, DL.mApp, DL.mFor, DL.mLc, DL.mrLc, DL.sget, DL.sset, DL.slots0, DL.slotsW, DL.endP, DL.endW, DL.endL, DL.wF, DL.fz_va, DL.fz_own, List.length_cons, List.length_nil, List.map_cons, List.map_nil, List.replicate_succ, List.replicate_zero, Nat.reduceAdd, Nat.reduceSub, Nat.reduceLeDiff, List.cons_append, List.nil_append, Nat.zero_add, Nat.add_zero, Nat.sub_self, Option.some.injEq, PyData.bool.injEq, PyData.int.injEq, PyData.tuple.injEq, PyData.list.injEq, PyData.str.injEq, List.cons.injEq, DL.S.va.injEq, DL.S.own.injEq, DL.S.well.injEq, DL.S.scr.injEq, and_true, true_and, exists_eq_left', exists_eq_left, exists_eq_right, exists_eq_right', exists_and_left, exists_and_right, exists_eq, exists_eq', reduceCtorEq, false_and, and_false, exists_const, if_true, if_false, Bool.false_eq_true, reduceIte, Bool.not_true, Bool.not_false, DL.bIsi, List.any_cons, List.any_nil, Bool.or_false, Bool.or_true, Bool.false_or, Bool.true_or, DL.isK, DL.opAdd_i, DL.opSub_i, DL.opMul_i, DL.opMod_i, DL.opFdiv_i, DL.opPow_i, DL.opLt_i, DL.opLe_i, DL.opGt_i, DL.opGe_i, DL.opEq_int, DL.opNe_int, DL.opEq_str, DL.opNe_str, DL.opIsN_n, DL.opNotN_n, DL.isN, DL.opIsB_b, DL.opNotB_b, DL.opNeg_i, DL.bAbs_i, DL.bMax_i, DL.bMin_i, DL.bInt_i, DL.bGcd_i, DL.bLen_l, DL.bLen_t, DL.opAdd_t, DL.opAdd_l, DL.opIx_l, DL.opIx_t, DL.opSl_t, DL.opSl_l, DL.opRev_t, DL.opRev_l, DL.bList_l, DL.bList_t, DL.bTup_l, DL.bTup_t, DL.atI0, DL.atI1, DL.atI2, DL.atI3]
  cases d <;> simpa [isK, isInt] using q
section
variable {P : Program} {w : World} {K : PySem.W.Frag} {mg : Str → Option Value} {base : Heap} {CN : String → Option Addr}
theorem ok_is_whole {f : Addr} {fd : FuncData} (F : Fun K "is_whole" "is_whole" s_is_whole f fd) (g : G K mg CN)  : FnG P w K mg base 1 f fd ["value"] (spP K CN D_is_whole) := by
  have sc := sc_is_whole
  exact fun_okP (m := m_is_whole) F sc (by decide) len_is_whole (fun cdv A outer s H E C W hw hr tk =>
    (pds_one (pds_ret (pdr_of (pd_and (pd_isi1 .kInt g.b_isinstance g.b_int (dv 0)) (pd_one (pd_not (pd_isi1 .kBool g.b_isinstance g.b_bool (dv 0))))))))) rd_is_whole
end
end LW
namespace LW
open PySem PySem.Spec PyProof.Rows L2 DL
def m_are_whole (W : WD) : MS :=
  mRet (mrOf (mAnd (mOp1 (bIsi [.kTup]) (mVar 0)) (mAnd (mOp2 opEq (mCallB bLen (mCons (mVar 0) (mNil))) (mVar 1)) (mCallB bAll (mCons (mLc (miSeq (mVar 0)) (mgName 2) (mTYes) (mCall D_is_whole wF (mCons (mVar 2) (mNil))) [2]) (mNil))))))
def areW (d : PyData) (m : Int) : Bool := match d with
  | .tuple xs => decide ((xs.length : Int) = m) && xs.all isInt
  | _ => false
def D_are_whole : PSpec := fun ds Q _ => ∃ d m, ds = [d, .int m] ∧ m ≤ 100 ∧ Q (.va (.bool (areW d m)))
theorem len_are_whole : ∀ ds Q E, D_are_whole ds Q E → ds.length = 2 := by
  rintro _ Q E ⟨d, m, rfl, _⟩
  rfl
theorem rd_are_whole : ∀ ds Q E, D_are_whole ds Q E → m_are_whole (fun c _ => E c) (endP Q) (slots0 3 ds) := by
  rintro _ Q E ⟨d, m, rfl, hm, q⟩
  unfold m_are_whole
  simp only [DL.mSeq, DL.mAsg, DL.mAsgR, DL.mAsgM, DL.mrs, DL.ssets, DL.mIf, DL.mRet, DL.mRetN, DL.mrOf, DL.mrLst, DL.mrCat, DL.mrCall, DL.mDrop, DL.mNext, DL.mBreak, DL.mCont, DL.mC, DL.mVar, DL.mOp2, DL.mOp1, DL.mAnd, DL.mOr, DL.mNot, DL.mIfE, DL.mChain, DL.mNil, DL.mCons, DL.mTup, DL.mLst, DL.mCallB, DL.mDict0, DL.mPart, DL.mNoPart, DL.mSl, DL.mCall, DL.mCallK, DL.mCallW, DL.mLenScr, DL.mWell, DL.mT, DL.mTAnd, DL.mTOr, DL.mTNot, DL.mTYes, DL.mgName, DL.mgNil, DL.mgCons, DL.mgTup, DL.miSeq, DL.miRng1, DL.miRng2, DL.mRaise, DL.mApp, DL.mFor, DL.mLc, DL.mrLc, DL.sget, DL.sset, DL.slots0, DL.slotsW, DL.endP, DL.endW, DL.endL, DL.wF, DL.fz_va, DL.fz_own, List.length_cons, List.length_nil, List.map_cons, List.map_nil, List.replicate_succ, List.replicate_zero, Nat.reduceAdd, Nat.reduceSub, Nat.reduceLeDiff, List.cons_append, List.nil_append, Nat.zero_add, Nat.add_zero, Nat.sub_self, Option.some.injEq, PyData.bool.injEq, PyData.int.injEq, PyData.tuple.injEq, PyData.list.injEq, PyData.str.injEq, List.cons.injEq, DL.S.va.injEq, DL.S.own.injEq, DL.S.well.injEq, DL.S.scr.injEq, and_true, true_and, exists_eq_left', exists_eq_left, exists_eq_right, exists_eq_right', exists_and_left, exists_and_right, exists_eq, exists_eq', reduceCtorEq, false_and, and_false, exists_const, if_true, if_false, Bool.false_eq_true, reduceIte, Bool.not_true, Bool.not_false, DL.bIsi, List.any_cons, List.any_nil, Bool.or_false, Bool.or_true, Bool.false_or, Bool.true_or, DL.isK, DL.opAdd_i, DL.opSub_i, DL.opMul_i, DL.opMod_i, DL.opFdiv_i, DL.opPow_i, DL.opLt_i, DL.opLe_i, DL.opGt_i, DL.opGe_i, DL.opEq_int, DL.opNe_int, DL.opEq_str, DL.opNe_str, DL.opIsN_n, DL.opNotN_n, DL.isN, DL.opIsB_b, DL.opNotB_b, DL.opNeg_i, DL.bAbs_i, DL.bMax_i, DL.bMin_i, DL.bInt_i, DL.bGcd_i, DL.bLen_l, DL.bLen_t, DL.opAdd_t, DL.opAdd_l, DL.opIx_l, DL.opIx_t, DL.opSl_t, DL.opSl_l, DL.opRev_t, DL.opRev_l, DL.bList_l, DL.bList_t, DL.bTup_l, DL.bTup_t, DL.atI0, DL.atI1, DL.atI2, DL.atI3]
  cases d with
  | tuple xs =>
    simp only [DL.mSeq, DL.mAsg, DL.mAsgR, DL.mAsgM, DL.mrs, DL.ssets, DL.mIf, DL.mRet, DL.mRetN, DL.mrOf, DL.mrLst, DL.mrCat, DL.mrCall, DL.mDrop, DL.mNext, DL.mBreak, DL.mCont, DL.mC, DL.mVar, DL.mOp2, DL.mOp1, DL.mAnd, DL.mOr, DL.mNot, DL.mIfE, DL.mChain, DL.mNil, DL.mCons, DL.mTup, DL.mLst, DL.mCallB, DL.mDict0, DL.mPart, DL.mNoPart, DL.mSl, DL.mCall, DL.mCallK, DL.mCallW, DL.mLenScr, DL.mWell, DL.mT, DL.mTAnd, DL.mTOr, DL.mTNot, DL.mTYes, DL.mgName, DL.mgNil, DL.mgCons, DL.mgTup, DL.miSeq, DL.miRng1, DL.miRng2, DL.mRaise, DL.mApp, DL.mFor, DL.mLc, DL.mrLc, DL.sget, DL.sset, DL.slots0, DL.slotsW, DL.endP, DL.endW, DL.endL, DL.wF, DL.fz_va, DL.fz_own, List.length_cons, List.length_nil, List.map_cons, List.map_nil, List.replicate_succ, List.replicate_zero, Nat.reduceAdd, Nat.reduceSub, Nat.reduceLeDiff, List.cons_append, List.nil_append, Nat.zero_add, Nat.add_zero, Nat.sub_self, Option.some.injEq, PyData.bool.injEq, PyData.int.injEq, PyData.tuple.injEq, PyData.list.injEq, PyData.str.injEq, List.cons.injEq, DL.S.va.injEq, DL.S.own.injEq, DL.S.well.injEq, DL.S.scr.injEq, and_true, true_and, exists_eq_left', exists_eq_left, exists_eq_right, exists_eq_right', exists_and_left, exists_and_right, exists_eq, exists_eq', reduceCtorEq, false_and, and_false, exists_const, if_true, if_false, Bool.false_eq_true, reduceIte, Bool.not_true, Bool.not_false, DL.bIsi, List.any_cons, List.any_nil, Bool.or_false, Bool.or_true, Bool.false_or, Bool.true_or, DL.isK, DL.opAdd_i, DL.opSub_i, DL.opMul_i, DL.opMod_i, DL.opFdiv_i, DL.opPow_i, DL.opLt_i, DL.opLe_i, DL.opGt_i, DL.opGe_i, DL.opEq_int, DL.opNe_int, DL.opEq_str, DL.opNe_str, DL.opIsN_n, DL.opNotN_n, DL.isN, DL.opIsB_b, DL.opNotB_b, DL.opNeg_i, DL.bAbs_i, DL.bMax_i, DL.bMin_i, DL.bInt_i, DL.bGcd_i, DL.bLen_l, DL.bLen_t, DL.opAdd_t, DL.opAdd_l, DL.opIx_l, DL.opIx_t, DL.opSl_t, DL.opSl_l, DL.opRev_t, DL.opRev_l, DL.bList_l, DL.bList_t, DL.bTup_l, DL.bTup_t, DL.atI0, DL.atI1, DL.atI2, DL.atI3]
    by_cases h : (xs.length : Int) = m
    · rw [if_pos (by simp [h])]
      refine ⟨_, rfl, rfl, ?_⟩
      refine lcL_run (fun s => ∃ x, s = [.va (.tuple xs), .va (.int m), x]) (fun d => some (.bool (isInt d))) xs ?_ _ [] ⟨_, rfl⟩ (by simp; omega) ?_
      · rintro d hd s ⟨x, rfl⟩ Y N hY hN
        simp only [swipe, sset, sget]
        exact ⟨d, rfl, _, rfl, hY _ _ rfl ⟨_, rfl⟩⟩
      · rintro s ⟨x, rfl⟩
        simp only [bAll, List.nil_append]
        rw [fm_some, bools_map]
        refine ⟨_, rfl, ?_⟩
        have e : (xs.map isInt).all id = xs.all isInt := by rw [List.all_map]; rfl
        show Q (S.va (.bool ((xs.map isInt).all id)))
        rw [e]
        simpa [areW, h] using q
    · rw [if_neg (by simp [h])]
      simpa [areW, h] using q
  | _ => simpa [areW, isK] using q
theorem isInt_inv {d : PyData} (h : isInt d = true) : ∃ a, d = .int a := by
  cases d <;> first | exact ⟨_, rfl⟩ | cases h
theorem areW2 {d : PyData} (h : areW d 2 = true) : ∃ a b, d = .tuple [.int a, .int b] := by
  cases d with
  | tuple xs =>
    simp only [areW, Bool.and_eq_true, decide_eq_true_eq] at h
    obtain ⟨h1, h2⟩ := h
    match xs, h1, h2 with
    | [x, y], h1, h2 =>
      simp only [List.all_cons, List.all_nil, Bool.and_true, Bool.and_eq_true] at h2
      obtain ⟨a, rfl⟩ := isInt_inv h2.1
      obtain ⟨b, rfl⟩ := isInt_inv h2.2
      exact ⟨_, _, rfl⟩
    | [], h, _ => simp at h
    | [x], h, _ => simp at h
    | x :: y :: z :: r, h, _ => simp at h; omega
  | _ => simp [areW] at h
theorem areW4 {d : PyData} (h : areW d 4 = true) : ∃ a b c e, d = .tuple [.int a, .int b, .int c, .int e] := by
  cases d with
  | tuple xs =>
    simp only [areW, Bool.and_eq_true, decide_eq_true_eq] at h
    obtain ⟨h1, h2⟩ := h
    match xs, h1, h2 with
    | [x, y, z, w], h1, h2 =>
      simp only [List.all_cons, List.all_nil, Bool.and_true, Bool.and_eq_true] at h2
      obtain ⟨a, rfl⟩ := isInt_inv h2.1
      obtain ⟨b, rfl⟩ := isInt_inv h2.2.1
      obtain ⟨c, rfl⟩ := isInt_inv h2.2.2.1
      obtain ⟨e, rfl⟩ := isInt_inv h2.2.2.2
      exact ⟨_, _, _, _, rfl⟩
    | [], h, _ => simp at h
    | [x], h, _ => simp at h
    | [x, y], h, _ => simp at h
    | [x, y, z], h, _ => simp at h
    | x :: y :: z :: u :: v :: r, h, _ => simp at h; omega
  | _ => simp [areW] at h
section
variable {P : Program} {w : World} {K : PySem.W.Frag} {mg : Str → Option Value} {base : Heap} {CN : String → Option Addr}
theorem ok_are_whole {f : Addr} {fd : FuncData} (F : Fun K "are_whole" "are_whole" s_are_whole f fd) (g : G K mg CN) (c_is_whole : CalP P w K mg base CN 1 "is_whole" D_is_whole) : FnG P w K mg base 2 f fd ["value", "many"] (spP K CN D_are_whole) := by
  have sc := sc_are_whole
  exact fun_okP (m := m_are_whole) F sc (by decide) len_are_whole (fun cdv A outer s H E C W hw hr tk =>
    (pds_one (pds_ret (pdr_of (pd_and (pd_isi1 .kTup g.b_isinstance g.b_tuple (dv 0)) (pd_and (pd_cmp (or_eqD (RoomG.u64 hr)) rl_eq (pd_callB cr_len rc_len g.b_len (by decide +kernel) (pda_cons (dv 0) pda_nil)) (dv 1) (nomark _)) (pd_one (pd_callB (cr_all rfl) rc_all g.b_all (by decide +kernel) (pda_cons (pd_lc (pe_lc (own := [("item", 2)]) rfl sc.nd (pdi_seq (dv 0)) (blkOk_by (N := ["value", "many", "item"]) (sc := (defScope s_are_whole)) (by decide +kernel)) (fun _ _ _ _ _ => (dgv 2 (vs := [2]) sc.nd)) (fun _ _ _ _ _ => pdts_nil) (fun _ _ _ _ _ => (pd_call c_is_whole hr (by decide) takesF (pda_cons (dv 2) pda_nil))))) pda_nil))))))))) rd_are_whole
end
end LW
namespace LW
open PySem PySem.Spec PyProof.Rows L2 DL
def m_fraction_of (W : WD) : MS :=
  mSeq (mAsg (mCallB bGcd (mCons (mVar 0) (mCons (mVar 1) (mNil)))) (mgName 2))
  (mRet (mrOf (mTup (mCons (mOp2 opFdiv (mVar 0) (mVar 2)) (mCons (mOp2 opFdiv (mVar 1) (mVar 2)) (mNil))))))
def D_fraction_of : PSpec := fun ds Q _ => ∃ t b, ds = [.int t, .int b] ∧ 1 ≤ b ∧ sz 8000 b ∧ Q (.va (fracD t b))
theorem len_fraction_of : ∀ ds Q E, D_fraction_of ds Q E → ds.length = 2 := by
  rintro _ Q E ⟨t, b, rfl, _⟩
  rfl
theorem rd_fraction_of : ∀ ds Q E, D_fraction_of ds Q E → m_fraction_of (fun c _ => E c) (endP Q) (slots0 3 ds) := by
  rintro _ Q E ⟨t, b, rfl, hb, hs, q⟩
  unfold m_fraction_of
  simp only [DL.mSeq, DL.mAsg, DL.mAsgR, DL.mAsgM, DL.mrs, DL.ssets, DL.mIf, DL.mRet, DL.mRetN, DL.mrOf, DL.mrLst, DL.mrCat, DL.mrCall, DL.mDrop, DL.mNext, DL.mBreak, DL.mCont, DL.mC, DL.mVar, DL.mOp2, DL.mOp1, DL.mAnd, DL.mOr, DL.mNot, DL.mIfE, DL.mChain, DL.mNil, DL.mCons, DL.mTup, DL.mLst, DL.mCallB, DL.mDict0, DL.mPart, DL.mNoPart, DL.mSl, DL.mCall, DL.mCallK, DL.mCallW, DL.mLenScr, DL.mWell, DL.mT, DL.mTAnd, DL.mTOr, DL.mTNot, DL.mTYes, DL.mgName, DL.mgNil, DL.mgCons, DL.mgTup, DL.miSeq, DL.miRng1, DL.miRng2, DL.mRaise, DL.mApp, DL.mFor, DL.mLc, DL.mrLc, DL.sget, DL.sset, DL.slots0, DL.slotsW, DL.endP, DL.endW, DL.endL, DL.wF, DL.fz_va, DL.fz_own, List.length_cons, List.length_nil, List.map_cons, List.map_nil, List.replicate_succ, List.replicate_zero, Nat.reduceAdd, Nat.reduceSub, Nat.reduceLeDiff, List.cons_append, List.nil_append, Nat.zero_add, Nat.add_zero, Nat.sub_self, Option.some.injEq, PyData.bool.injEq, PyData.int.injEq, PyData.tuple.injEq, PyData.list.injEq, PyData.str.injEq, List.cons.injEq, DL.S.va.injEq, DL.S.own.injEq, DL.S.well.injEq, DL.S.scr.injEq, and_true, true_and, exists_eq_left', exists_eq_left, exists_eq_right, exists_eq_right', exists_and_left, exists_and_right, exists_eq, exists_eq', reduceCtorEq, false_and, and_false, exists_const, if_true, if_false, Bool.false_eq_true, reduceIte, Bool.not_true, Bool.not_false, DL.bIsi, List.any_cons, List.any_nil, Bool.or_false, Bool.or_true, Bool.false_or, Bool.true_or, DL.isK, DL.opAdd_i, DL.opSub_i, DL.opMul_i, DL.opMod_i, DL.opFdiv_i, DL.opPow_i, DL.opLt_i, DL.opLe_i, DL.opGt_i, DL.opGe_i, DL.opEq_int, DL.opNe_int, DL.opEq_str, DL.opNe_str, DL.opIsN_n, DL.opNotN_n, DL.isN, DL.opIsB_b, DL.opNotB_b, DL.opNeg_i, DL.bAbs_i, DL.bMax_i, DL.bMin_i, DL.bInt_i, DL.bGcd_i, DL.bLen_l, DL.bLen_t, DL.opAdd_t, DL.opAdd_l, DL.opIx_l, DL.opIx_t, DL.opSl_t, DL.opSl_l, DL.opRev_t, DL.opRev_l, DL.bList_l, DL.bList_t, DL.bTup_l, DL.bTup_t, DL.atI0, DL.atI1, DL.atI2, DL.atI3]
  have g := sz_gcd (t := t) hb hs
  have g0 := gcd_pos (t := t) hb
  exact ⟨_, by rw [← opFdiv_i]; exact opFdiv_ok g0 g (by decide), _, by rw [← opFdiv_i]; exact opFdiv_ok g0 g (by decide), q⟩
section
variable {P : Program} {w : World} {K : PySem.W.Frag} {mg : Str → Option Value} {base : Heap} {CN : String → Option Addr}
theorem ok_fraction_of {f : Addr} {fd : FuncData} (F : Fun K "fraction_of" "fraction_of" s_fraction_of f fd) (g : G K mg CN)  : FnG P w K mg base 1 f fd ["top", "bottom"] (spP K CN D_fraction_of) := by
  have sc := sc_fraction_of
  exact fun_okP (m := m_fraction_of) F sc (by decide) len_fraction_of (fun cdv A outer s H E C W hw hr tk =>
    (pds_cons (pds_asg (ps_asg (pd_gcd g.b_gcd (pda_cons (dv 0) (pda_cons (dv 1) pda_nil))) (dg 2 sc.nd)))
    (pds_one (pds_ret (pdr_of (pd_tup (pda_cons (pd_op op_fdivW rl_fdiv (dv 0) (dv 2)) (pda_cons (pd_op op_fdivW rl_fdiv (dv 1) (dv 2)) pda_nil)))))))) rd_fraction_of
end
end LW
namespace LW
open PySem PySem.Spec PyProof.Rows L2 DL
def m__line_of (W : WD) : MS :=
  mSeq (mIf (mT (mOp2 opLt (mVar 2) (mC (.int 0)))) (mRet (mrOf (mTup (mCons (mVar 0) (mCons (mOp1 opNeg (mVar 1)) (mCons (mOp1 opNeg (mVar 2)) (mNil))))))) (mNext))
  (mRet (mrOf (mTup (mCons (mVar 0) (mCons (mVar 1) (mCons (mVar 2) (mNil)))))))
def lineD (s a v : Int) : PyData := if v < 0 then .tuple [.int s, .int (-a), .int (-v)] else .tuple [.int s, .int a, .int v]
def D__line_of : PSpec := fun ds Q _ => ∃ s a v, ds = [.int s, .int a, .int v] ∧ Q (.va (lineD s a v))
theorem len__line_of : ∀ ds Q E, D__line_of ds Q E → ds.length = 3 := by
  rintro _ Q E ⟨s, a, v, rfl, _⟩
  rfl
theorem rd__line_of : ∀ ds Q E, D__line_of ds Q E → m__line_of (fun c _ => E c) (endP Q) (slots0 3 ds) := by
  rintro _ Q E ⟨s, a, v, rfl, q⟩
  unfold m__line_of
  simp only [DL.mSeq, DL.mAsg, DL.mAsgR, DL.mAsgM, DL.mrs, DL.ssets, DL.mIf, DL.mRet, DL.mRetN, DL.mrOf, DL.mrLst, DL.mrCat, DL.mrCall, DL.mDrop, DL.mNext, DL.mBreak, DL.mCont, DL.mC, DL.mVar, DL.mOp2, DL.mOp1, DL.mAnd, DL.mOr, DL.mNot, DL.mIfE, DL.mChain, DL.mNil, DL.mCons, DL.mTup, DL.mLst, DL.mCallB, DL.mDict0, DL.mPart, DL.mNoPart, DL.mSl, DL.mCall, DL.mCallK, DL.mCallW, DL.mLenScr, DL.mWell, DL.mT, DL.mTAnd, DL.mTOr, DL.mTNot, DL.mTYes, DL.mgName, DL.mgNil, DL.mgCons, DL.mgTup, DL.miSeq, DL.miRng1, DL.miRng2, DL.mRaise, DL.mApp, DL.mFor, DL.mLc, DL.mrLc, DL.sget, DL.sset, DL.slots0, DL.slotsW, DL.endP, DL.endW, DL.endL, DL.wF, DL.fz_va, DL.fz_own, List.length_cons, List.length_nil, List.map_cons, List.map_nil, List.replicate_succ, List.replicate_zero, Nat.reduceAdd, Nat.reduceSub, Nat.reduceLeDiff, List.cons_append, List.nil_append, Nat.zero_add, Nat.add_zero, Nat.sub_self, Option.some.injEq, PyData.bool.injEq, PyData.int.injEq, PyData.tuple.injEq, PyData.list.injEq, PyData.str.injEq, List.cons.injEq, DL.S.va.injEq, DL.S.own.injEq, DL.S.well.injEq, DL.S.scr.injEq, and_true, true_and, exists_eq_left', exists_eq_left, exists_eq_right, exists_eq_right', exists_and_left, exists_and_right, exists_eq, exists_eq', reduceCtorEq, false_and, and_false, exists_const, if_true, if_false, Bool.false_eq_true, reduceIte, Bool.not_true, Bool.not_false, DL.bIsi, List.any_cons, List.any_nil, Bool.or_false, Bool.or_true, Bool.false_or, Bool.true_or, DL.isK, DL.opAdd_i, DL.opSub_i, DL.opMul_i, DL.opMod_i, DL.opFdiv_i, DL.opPow_i, DL.opLt_i, DL.opLe_i, DL.opGt_i, DL.opGe_i, DL.opEq_int, DL.opNe_int, DL.opEq_str, DL.opNe_str, DL.opIsN_n, DL.opNotN_n, DL.isN, DL.opIsB_b, DL.opNotB_b, DL.opNeg_i, DL.bAbs_i, DL.bMax_i, DL.bMin_i, DL.bInt_i, DL.bGcd_i, DL.bLen_l, DL.bLen_t, DL.opAdd_t, DL.opAdd_l, DL.opIx_l, DL.opIx_t, DL.opSl_t, DL.opSl_l, DL.opRev_t, DL.opRev_l, DL.bList_l, DL.bList_t, DL.bTup_l, DL.bTup_t, DL.atI0, DL.atI1, DL.atI2, DL.atI3]
  by_cases h : v < 0
  · rw [if_pos (decide_eq_true h)]
    rw [lineD, if_pos h] at q
    exact q
  · rw [if_neg (by simpa using h)]
    rw [lineD, if_neg h] at q
    exact q
theorem lineD_eq (s a v : Int) : lineD s a v = .tuple [.int s, .int (lineA v a), .int (lineV v)] := by
  unfold lineD lineA lineV
  by_cases h : v < 0
  · rw [if_pos h, if_pos h, if_pos h]
  · rw [if_neg h, if_neg h, if_neg h]
theorem sz_lineA {k : Nat} {v a : Int} (h : sz k a) : sz k (lineA v a) := by
  unfold lineA
  split
  · exact sz_neg h
  · exact h
theorem sz_lineV {k : Nat} {v : Int} (h : sz k v) : sz k (lineV v) := by
  unfold lineV
  split
  · exact sz_neg h
  · exact h
section
variable {P : Program} {w : World} {K : PySem.W.Frag} {mg : Str → Option Value} {base : Heap} {CN : String → Option Addr}
theorem ok__line_of {f : Addr} {fd : FuncData} (F : Fun K "_line_of" "_line_of" s__line_of f fd) (g : G K mg CN)  : FnG P w K mg base 1 f fd ["side", "start", "speed"] (spP K CN D__line_of) := by
  have sc := sc__line_of
  exact fun_okP (m := m__line_of) F sc (by decide) len__line_of (fun cdv A outer s H E C W hw hr tk =>
    (pds_cons (pds_if (pdt_cmp op_lt rl_cmpI (dv 2) pd_int (nomark _)) (pds_one (pds_ret (pdr_of (pd_tup (pda_cons (dv 0) (pda_cons (pd_un un_neg rl_neg (dv 1)) (pda_cons (pd_un un_neg rl_neg (dv 2)) pda_nil))))))) pds_nil)
    (pds_one (pds_ret (pdr_of (pd_tup (pda_cons (dv 0) (pda_cons (dv 1) (pda_cons (dv 2) pda_nil))))))))) rd__line_of
end
end LW
namespace LW
open PySem PySem.Spec PyProof.Rows L2 DL
def m_lines_of (W : WD) : MS :=
  mSeq (mAsg (mVar 0) (mgTup 2 (mgCons (mgName 2) (mgCons (mgName 3) (mgNil)))))
  (mSeq (mAsg (mVar 1) (mgTup 4 (mgCons (mgName 4) (mgCons (mgName 5) (mgCons (mgName 6) (mgCons (mgName 7) (mgNil)))))))
  (mRet (mrOf (mTup (mCons (mCall D__line_of W (mCons (mVar 2) (mCons (mVar 4) (mCons (mVar 6) (mNil))))) (mCons (mCall D__line_of W (mCons (mVar 3) (mCons (mVar 5) (mCons (mVar 7) (mNil))))) (mNil)))))))
def D_lines_of : PSpec := fun ds Q _ => ∃ a b x y p q, ds = [.tuple [.int a, .int b], .tuple [.int x, .int y, .int p, .int q]] ∧ Q (.va (.tuple [lineD a x p, lineD b y q]))
theorem len_lines_of : ∀ ds Q E, D_lines_of ds Q E → ds.length = 2 := by
  rintro _ Q E ⟨a, b, x, y, p, q, rfl, _⟩
  rfl
theorem rd_lines_of : ∀ ds Q E, D_lines_of ds Q E → m_lines_of (fun c _ => E c) (endP Q) (slots0 8 ds) := by
  rintro _ Q E ⟨a, b, x, y, p, q, rfl, hq⟩
  unfold m_lines_of
  simp only [DL.mSeq, DL.mAsg, DL.mAsgR, DL.mAsgM, DL.mrs, DL.ssets, DL.mIf, DL.mRet, DL.mRetN, DL.mrOf, DL.mrLst, DL.mrCat, DL.mrCall, DL.mDrop, DL.mNext, DL.mBreak, DL.mCont, DL.mC, DL.mVar, DL.mOp2, DL.mOp1, DL.mAnd, DL.mOr, DL.mNot, DL.mIfE, DL.mChain, DL.mNil, DL.mCons, DL.mTup, DL.mLst, DL.mCallB, DL.mDict0, DL.mPart, DL.mNoPart, DL.mSl, DL.mCall, DL.mCallK, DL.mCallW, DL.mLenScr, DL.mWell, DL.mT, DL.mTAnd, DL.mTOr, DL.mTNot, DL.mTYes, DL.mgName, DL.mgNil, DL.mgCons, DL.mgTup, DL.miSeq, DL.miRng1, DL.miRng2, DL.mRaise, DL.mApp, DL.mFor, DL.mLc, DL.mrLc, DL.sget, DL.sset, DL.slots0, DL.slotsW, DL.endP, DL.endW, DL.endL, DL.wF, DL.fz_va, DL.fz_own, List.length_cons, List.length_nil, List.map_cons, List.map_nil, List.replicate_succ, List.replicate_zero, Nat.reduceAdd, Nat.reduceSub, Nat.reduceLeDiff, List.cons_append, List.nil_append, Nat.zero_add, Nat.add_zero, Nat.sub_self, Option.some.injEq, PyData.bool.injEq, PyData.int.injEq, PyData.tuple.injEq, PyData.list.injEq, PyData.str.injEq, List.cons.injEq, DL.S.va.injEq, DL.S.own.injEq, DL.S.well.injEq, DL.S.scr.injEq, and_true, true_and, exists_eq_left', exists_eq_left, exists_eq_right, exists_eq_right', exists_and_left, exists_and_right, exists_eq, exists_eq', reduceCtorEq, false_and, and_false, exists_const, if_true, if_false, Bool.false_eq_true, reduceIte, Bool.not_true, Bool.not_false, DL.bIsi, List.any_cons, List.any_nil, Bool.or_false, Bool.or_true, Bool.false_or, Bool.true_or, DL.isK, DL.opAdd_i, DL.opSub_i, DL.opMul_i, DL.opMod_i, DL.opFdiv_i, DL.opPow_i, DL.opLt_i, DL.opLe_i, DL.opGt_i, DL.opGe_i, DL.opEq_int, DL.opNe_int, DL.opEq_str, DL.opNe_str, DL.opIsN_n, DL.opNotN_n, DL.isN, DL.opIsB_b, DL.opNotB_b, DL.opNeg_i, DL.bAbs_i, DL.bMax_i, DL.bMin_i, DL.bInt_i, DL.bGcd_i, DL.bLen_l, DL.bLen_t, DL.opAdd_t, DL.opAdd_l, DL.opIx_l, DL.opIx_t, DL.opSl_t, DL.opSl_l, DL.opRev_t, DL.opRev_l, DL.bList_l, DL.bList_t, DL.bTup_l, DL.bTup_t, DL.atI0, DL.atI1, DL.atI2, DL.atI3]
  exact ⟨_, rfl, rfl, _, _, rfl, _, _, rfl, rfl, _, rfl, rfl, _, _, rfl, _, _, rfl, _, _, rfl, _, _, rfl, rfl, _, _, _, rfl, _, rfl, _, _, _, rfl, _, rfl, hq⟩
section
variable {P : Program} {w : World} {K : PySem.W.Frag} {mg : Str → Option Value} {base : Heap} {CN : String → Option Addr}
theorem ok_lines_of {f : Addr} {fd : FuncData} (F : Fun K "lines_of" "lines_of" s_lines_of f fd) (g : G K mg CN) (c__line_of : CalP P w K mg base CN 1 "_line_of" D__line_of) : FnG P w K mg base 2 f fd ["table", "shot"] (spP K CN D_lines_of) := by
  have sc := sc_lines_of
  exact fun_okP (m := m_lines_of) F sc (by decide) len_lines_of (fun cdv A outer s H E C W hw hr tk =>
    (pds_cons (pds_asg (ps_asg (dv 0) (pdg_tup rfl (gcons (dg 2 sc.nd) (gcons (dg 3 sc.nd) pdgs_nil)))))
    (pds_cons (pds_asg (ps_asg (dv 1) (pdg_tup rfl (gcons (dg 4 sc.nd) (gcons (dg 5 sc.nd) (gcons (dg 6 sc.nd) (gcons (dg 7 sc.nd) pdgs_nil)))))))
    (pds_one (pds_ret (pdr_of (pd_tup (pda_cons (pd_call c__line_of hr (by decide) tk (pda_cons (dv 2) (pda_cons (dv 4) (pda_cons (dv 6) pda_nil)))) (pda_cons (pd_call c__line_of hr (by decide) tk (pda_cons (dv 3) (pda_cons (dv 5) (pda_cons (dv 7) pda_nil)))) pda_nil))))))))) rd_lines_of
end
end LW
namespace LW
open PySem PySem.Spec PyProof.Rows L2 DL
def m_is_table (W : WD) : MS :=
  mRet (mrOf (mAnd (mCall D_are_whole W (mCons (mVar 0) (mCons (mC (.int 2)) (mNil)))) (mAnd (mOp2 opGe (mOp2 opIx (mVar 0) (mC (.int 0))) (mC (.int 1))) (mOp2 opGe (mOp2 opIx (mVar 0) (mC (.int 1))) (mC (.int 1))))))
def isTab : PyData → Bool
  | .tuple [.int a, .int b] => decide (1 ≤ a) && decide (1 ≤ b)
  | _ => false
def D_is_table : PSpec := fun ds Q _ => ∃ d, ds = [d] ∧ Q (.va (.bool (isTab d)))
theorem len_is_table : ∀ ds Q E, D_is_table ds Q E → ds.length = 1 := by
  rintro _ Q E ⟨d, rfl, _⟩
  rfl
theorem rd_is_table : ∀ ds Q E, D_is_table ds Q E → m_is_table (fun c _ => E c) (endP Q) (slots0 1 ds) := by
  rintro _ Q E ⟨d, rfl, q⟩
  unfold m_is_table
  simp only [DL.mSeq, DL.mAsg, DL.mAsgR, DL.mAsgM, DL.mrs, DL.ssets, DL.mIf, DL.mRet, DL.mRetN, DL.mrOf, DL.mrLst, DL.mrCat, DL.mrCall, DL.mDrop, DL.mNext, DL.mBreak, DL.mCont, DL.mC, DL.mVar, DL.mOp2, DL.mOp1, DL.mAnd, DL.mOr, DL.mNot, DL.mIfE, DL.mChain, DL.mNil, DL.mCons, DL.mTup, DL.mLst, DL.mCallB, DL.mDict0, DL.mPart, DL.mNoPart, DL.mSl, DL.mCall, DL.mCallK, DL.mCallW, DL.mLenScr, DL.mWell, DL.mT, DL.mTAnd, DL.mTOr, DL.mTNot, DL.mTYes, DL.mgName, DL.mgNil, DL.mgCons, DL.mgTup, DL.miSeq, DL.miRng1, DL.miRng2, DL.mRaise, DL.mApp, DL.mFor, DL.mLc, DL.mrLc, DL.sget, DL.sset, DL.slots0, DL.slotsW, DL.endP, DL.endW, DL.endL, DL.wF, DL.fz_va, DL.fz_own, List.length_cons, List.length_nil, List.map_cons, List.map_nil, List.replicate_succ, List.replicate_zero, Nat.reduceAdd, Nat.reduceSub, Nat.reduceLeDiff, List.cons_append, List.nil_append, Nat.zero_add, Nat.add_zero, Nat.sub_self, Option.some.injEq, PyData.bool.injEq, PyData.int.injEq, PyData.tuple.injEq, PyData.list.injEq, PyData.str.injEq, List.cons.injEq, DL.S.va.injEq, DL.S.own.injEq, DL.S.well.injEq, DL.S.scr.injEq, and_true, true_and, exists_eq_left', exists_eq_left, exists_eq_right, exists_eq_right', exists_and_left, exists_and_right, exists_eq, exists_eq', reduceCtorEq, false_and, and_false, exists_const, if_true, if_false, Bool.false_eq_true, reduceIte, Bool.not_true, Bool.not_false, DL.bIsi, List.any_cons, List.any_nil, Bool.or_false, Bool.or_true, Bool.false_or, Bool.true_or, DL.isK, DL.opAdd_i, DL.opSub_i, DL.opMul_i, DL.opMod_i, DL.opFdiv_i, DL.opPow_i, DL.opLt_i, DL.opLe_i, DL.opGt_i, DL.opGe_i, DL.opEq_int, DL.opNe_int, DL.opEq_str, DL.opNe_str, DL.opIsN_n, DL.opNotN_n, DL.isN, DL.opIsB_b, DL.opNotB_b, DL.opNeg_i, DL.bAbs_i, DL.bMax_i, DL.bMin_i, DL.bInt_i, DL.bGcd_i, DL.bLen_l, DL.bLen_t, DL.opAdd_t, DL.opAdd_l, DL.opIx_l, DL.opIx_t, DL.opSl_t, DL.opSl_l, DL.opRev_t, DL.opRev_l, DL.bList_l, DL.bList_t, DL.bTup_l, DL.bTup_t, DL.atI0, DL.atI1, DL.atI2, DL.atI3]
  refine ⟨d, 2, rfl, by decide, _, rfl, _, rfl, ?_⟩
  cases h : areW d 2 with
  | false =>
    rw [if_neg (by decide)]
    have e : isTab d = false := by
      unfold isTab
      split
      · simp [areW, isInt] at h
      · rfl
    rwa [e] at q
  | true =>
    obtain ⟨a, b, rfl⟩ := areW2 h
    rw [if_pos rfl]
    simp only [DL.mSeq, DL.mAsg, DL.mAsgR, DL.mAsgM, DL.mrs, DL.ssets, DL.mIf, DL.mRet, DL.mRetN, DL.mrOf, DL.mrLst, DL.mrCat, DL.mrCall, DL.mDrop, DL.mNext, DL.mBreak, DL.mCont, DL.mC, DL.mVar, DL.mOp2, DL.mOp1, DL.mAnd, DL.mOr, DL.mNot, DL.mIfE, DL.mChain, DL.mNil, DL.mCons, DL.mTup, DL.mLst, DL.mCallB, DL.mDict0, DL.mPart, DL.mNoPart, DL.mSl, DL.mCall, DL.mCallK, DL.mCallW, DL.mLenScr, DL.mWell, DL.mT, DL.mTAnd, DL.mTOr, DL.mTNot, DL.mTYes, DL.mgName, DL.mgNil, DL.mgCons, DL.mgTup, DL.miSeq, DL.miRng1, DL.miRng2, DL.mRaise, DL.mApp, DL.mFor, DL.mLc, DL.mrLc, DL.sget, DL.sset, DL.slots0, DL.slotsW, DL.endP, DL.endW, DL.endL, DL.wF, DL.fz_va, DL.fz_own, List.length_cons, List.length_nil, List.map_cons, List.map_nil, List.replicate_succ, List.replicate_zero, Nat.reduceAdd, Nat.reduceSub, Nat.reduceLeDiff, List.cons_append, List.nil_append, Nat.zero_add, Nat.add_zero, Nat.sub_self, Option.some.injEq, PyData.bool.injEq, PyData.int.injEq, PyData.tuple.injEq, PyData.list.injEq, PyData.str.injEq, List.cons.injEq, DL.S.va.injEq, DL.S.own.injEq, DL.S.well.injEq, DL.S.scr.injEq, and_true, true_and, exists_eq_left', exists_eq_left, exists_eq_right, exists_eq_right', exists_and_left, exists_and_right, exists_eq, exists_eq', reduceCtorEq, false_and, and_false, exists_const, if_true, if_false, Bool.false_eq_true, reduceIte, Bool.not_true, Bool.not_false, DL.bIsi, List.any_cons, List.any_nil, Bool.or_false, Bool.or_true, Bool.false_or, Bool.true_or, DL.isK, DL.opAdd_i, DL.opSub_i, DL.opMul_i, DL.opMod_i, DL.opFdiv_i, DL.opPow_i, DL.opLt_i, DL.opLe_i, DL.opGt_i, DL.opGe_i, DL.opEq_int, DL.opNe_int, DL.opEq_str, DL.opNe_str, DL.opIsN_n, DL.opNotN_n, DL.isN, DL.opIsB_b, DL.opNotB_b, DL.opNeg_i, DL.bAbs_i, DL.bMax_i, DL.bMin_i, DL.bInt_i, DL.bGcd_i, DL.bLen_l, DL.bLen_t, DL.opAdd_t, DL.opAdd_l, DL.opIx_l, DL.opIx_t, DL.opSl_t, DL.opSl_l, DL.opRev_t, DL.opRev_l, DL.bList_l, DL.bList_t, DL.bTup_l, DL.bTup_t, DL.atI0, DL.atI1, DL.atI2, DL.atI3]
    by_cases h1 : 1 ≤ a
    · rw [if_pos (by simpa using h1)]
      simpa [isTab, h1] using q
    · rw [if_neg (by simpa using h1)]
      simpa [isTab, h1] using q
section
variable {P : Program} {w : World} {K : PySem.W.Frag} {mg : Str → Option Value} {base : Heap} {CN : String → Option Addr}
theorem ok_is_table {f : Addr} {fd : FuncData} (F : Fun K "is_table" "is_table" s_is_table f fd) (g : G K mg CN) (c_are_whole : CalP P w K mg base CN 2 "are_whole" D_are_whole) : FnG P w K mg base 3 f fd ["value"] (spP K CN D_is_table) := by
  have sc := sc_is_table
  exact fun_okP (m := m_is_table) F sc (by decide) len_is_table (fun cdv A outer s H E C W hw hr tk =>
    (pds_one (pds_ret (pdr_of (pd_and (pd_call c_are_whole hr (by decide) tk (pda_cons (dv 0) (pda_cons pd_int pda_nil))) (pd_and (pd_cmp op_ge rl_cmpI (pd_ix ix_seq rl_ix (dv 0) pd_int) pd_int (nomark _)) (pd_one (pd_cmp op_ge rl_cmpI (pd_ix ix_seq rl_ix (dv 0) pd_int) pd_int (nomark _))))))))) rd_is_table
end
end LW
namespace LW
open PySem PySem.Spec PyProof.Rows L2 DL
def m_check_table (W : WD) : MS :=
  mIf (mTNot (mT (mCall D_is_table W (mCons (mVar 0) (mNil))))) (mRaise "InvalidTable" W) (mNext)
def D_check_table : PSpec := fun ds Q E => ∃ d, ds = [d] ∧ (isTab d = true → Q (.va .none)) ∧ (isTab d = false → E "InvalidTable")
theorem len_check_table : ∀ ds Q E, D_check_table ds Q E → ds.length = 1 := by
  rintro _ Q E ⟨d, rfl, _⟩
  rfl
theorem rd_check_table : ∀ ds Q E, D_check_table ds Q E → m_check_table (fun c _ => E c) (endP Q) (slots0 1 ds) := by
  rintro _ Q E ⟨d, rfl, q1, q2⟩
  unfold m_check_table
  simp only [DL.mSeq, DL.mAsg, DL.mAsgR, DL.mAsgM, DL.mrs, DL.ssets, DL.mIf, DL.mRet, DL.mRetN, DL.mrOf, DL.mrLst, DL.mrCat, DL.mrCall, DL.mDrop, DL.mNext, DL.mBreak, DL.mCont, DL.mC, DL.mVar, DL.mOp2, DL.mOp1, DL.mAnd, DL.mOr, DL.mNot, DL.mIfE, DL.mChain, DL.mNil, DL.mCons, DL.mTup, DL.mLst, DL.mCallB, DL.mDict0, DL.mPart, DL.mNoPart, DL.mSl, DL.mCall, DL.mCallK, DL.mCallW, DL.mLenScr, DL.mWell, DL.mT, DL.mTAnd, DL.mTOr, DL.mTNot, DL.mTYes, DL.mgName, DL.mgNil, DL.mgCons, DL.mgTup, DL.miSeq, DL.miRng1, DL.miRng2, DL.mRaise, DL.mApp, DL.mFor, DL.mLc, DL.mrLc, DL.sget, DL.sset, DL.slots0, DL.slotsW, DL.endP, DL.endW, DL.endL, DL.wF, DL.fz_va, DL.fz_own, List.length_cons, List.length_nil, List.map_cons, List.map_nil, List.replicate_succ, List.replicate_zero, Nat.reduceAdd, Nat.reduceSub, Nat.reduceLeDiff, List.cons_append, List.nil_append, Nat.zero_add, Nat.add_zero, Nat.sub_self, Option.some.injEq, PyData.bool.injEq, PyData.int.injEq, PyData.tuple.injEq, PyData.list.injEq, PyData.str.injEq, List.cons.injEq, DL.S.va.injEq, DL.S.own.injEq, DL.S.well.injEq, DL.S.scr.injEq, and_true, true_and, exists_eq_left', exists_eq_left, exists_eq_right, exists_eq_right', exists_and_left, exists_and_right, exists_eq, exists_eq', reduceCtorEq, false_and, and_false, exists_const, if_true, if_false, Bool.false_eq_true, reduceIte, Bool.not_true, Bool.not_false, DL.bIsi, List.any_cons, List.any_nil, Bool.or_false, Bool.or_true, Bool.false_or, Bool.true_or, DL.isK, DL.opAdd_i, DL.opSub_i, DL.opMul_i, DL.opMod_i, DL.opFdiv_i, DL.opPow_i, DL.opLt_i, DL.opLe_i, DL.opGt_i, DL.opGe_i, DL.opEq_int, DL.opNe_int, DL.opEq_str, DL.opNe_str, DL.opIsN_n, DL.opNotN_n, DL.isN, DL.opIsB_b, DL.opNotB_b, DL.opNeg_i, DL.bAbs_i, DL.bMax_i, DL.bMin_i, DL.bInt_i, DL.bGcd_i, DL.bLen_l, DL.bLen_t, DL.opAdd_t, DL.opAdd_l, DL.opIx_l, DL.opIx_t, DL.opSl_t, DL.opSl_l, DL.opRev_t, DL.opRev_l, DL.bList_l, DL.bList_t, DL.bTup_l, DL.bTup_t, DL.atI0, DL.atI1, DL.atI2, DL.atI3]
  refine ⟨d, rfl, _, rfl, _, rfl, ?_⟩
  cases h : isTab d with
  | false => exact q2 h
  | true => exact q1 h
section
variable {P : Program} {w : World} {K : PySem.W.Frag} {mg : Str → Option Value} {base : Heap} {CN : String → Option Addr}
theorem ok_check_table {f : Addr} {fd : FuncData} (F : Fun K "check_table" "check_table" s_check_table f fd) (g : G K mg CN) (c_is_table : CalP P w K mg base CN 3 "is_table" D_is_table) : FnG P w K mg base 4 f fd ["table"] (spP K CN D_check_table) := by
  obtain ⟨e_InvalidTable, n_InvalidTable, t_InvalidTable⟩ := g.x_InvalidTable
  have sc := sc_check_table
  exact fun_okP (m := m_check_table) F sc (by decide) len_check_table (fun cdv A outer s H E C W hw hr tk =>
    (pds_one (pds_if (pdt_not (pdt_val (pd_call c_is_table hr (by decide) tk (pda_cons (dv 0) pda_nil)))) (pds_one (pds_raise rfl tk t_InvalidTable n_InvalidTable)) pds_nil))) rd_check_table
end
end LW
namespace LW
open PySem PySem.Spec PyProof.Rows L2 DL
def m_is_any_shot (W : WD) : MS :=
  mRet (mrOf (mAnd (mCall D_are_whole W (mCons (mVar 0) (mCons (mC (.int 4)) (mNil)))) (mAnd (mOp2 opGe (mOp2 opIx (mVar 0) (mC (.int 0))) (mC (.int 0))) (mAnd (mOp2 opGe (mOp2 opIx (mVar 0) (mC (.int 1))) (mC (.int 0))) (mOr (mOp2 opNe (mOp2 opIx (mVar 0) (mC (.int 2))) (mC (.int 0))) (mOp2 opNe (mOp2 opIx (mVar 0) (mC (.int 3))) (mC (.int 0))))))))
def isAny : PyData → Bool
  | .tuple [.int x, .int y, .int p, .int q] => decide (0 ≤ x) && decide (0 ≤ y) && (!decide (p = 0) || !decide (q = 0))
  | _ => false
def D_is_any_shot : PSpec := fun ds Q _ => ∃ d, ds = [d] ∧ Q (.va (.bool (isAny d)))
theorem len_is_any_shot : ∀ ds Q E, D_is_any_shot ds Q E → ds.length = 1 := by
  rintro _ Q E ⟨d, rfl, _⟩
  rfl
theorem rd_is_any_shot : ∀ ds Q E, D_is_any_shot ds Q E → m_is_any_shot (fun c _ => E c) (endP Q) (slots0 1 ds) := by
  rintro _ Q E ⟨d, rfl, q⟩
  unfold m_is_any_shot
  simp only [DL.mSeq, DL.mAsg, DL.mAsgR, DL.mAsgM, DL.mrs, DL.ssets, DL.mIf, DL.mRet, DL.mRetN, DL.mrOf, DL.mrLst, DL.mrCat, DL.mrCall, DL.mDrop, DL.mNext, DL.mBreak, DL.mCont, DL.mC, DL.mVar, DL.mOp2, DL.mOp1, DL.mAnd, DL.mOr, DL.mNot, DL.mIfE, DL.mChain, DL.mNil, DL.mCons, DL.mTup, DL.mLst, DL.mCallB, DL.mDict0, DL.mPart, DL.mNoPart, DL.mSl, DL.mCall, DL.mCallK, DL.mCallW, DL.mLenScr, DL.mWell, DL.mT, DL.mTAnd, DL.mTOr, DL.mTNot, DL.mTYes, DL.mgName, DL.mgNil, DL.mgCons, DL.mgTup, DL.miSeq, DL.miRng1, DL.miRng2, DL.mRaise, DL.mApp, DL.mFor, DL.mLc, DL.mrLc, DL.sget, DL.sset, DL.slots0, DL.slotsW, DL.endP, DL.endW, DL.endL, DL.wF, DL.fz_va, DL.fz_own, List.length_cons, List.length_nil, List.map_cons, List.map_nil, List.replicate_succ, List.replicate_zero, Nat.reduceAdd, Nat.reduceSub, Nat.reduceLeDiff, List.cons_append, List.nil_append, Nat.zero_add, Nat.add_zero, Nat.sub_self, Option.some.injEq, PyData.bool.injEq, PyData.int.injEq, PyData.tuple.injEq, PyData.list.injEq, PyData.str.injEq, List.cons.injEq, DL.S.va.injEq, DL.S.own.injEq, DL.S.well.injEq, DL.S.scr.injEq, and_true, true_and, exists_eq_left', exists_eq_left, exists_eq_right, exists_eq_right', exists_and_left, exists_and_right, exists_eq, exists_eq', reduceCtorEq, false_and, and_false, exists_const, if_true, if_false, Bool.false_eq_true, reduceIte, Bool.not_true, Bool.not_false, DL.bIsi, List.any_cons, List.any_nil, Bool.or_false, Bool.or_true, Bool.false_or, Bool.true_or, DL.isK, DL.opAdd_i, DL.opSub_i, DL.opMul_i, DL.opMod_i, DL.opFdiv_i, DL.opPow_i, DL.opLt_i, DL.opLe_i, DL.opGt_i, DL.opGe_i, DL.opEq_int, DL.opNe_int, DL.opEq_str, DL.opNe_str, DL.opIsN_n, DL.opNotN_n, DL.isN, DL.opIsB_b, DL.opNotB_b, DL.opNeg_i, DL.bAbs_i, DL.bMax_i, DL.bMin_i, DL.bInt_i, DL.bGcd_i, DL.bLen_l, DL.bLen_t, DL.opAdd_t, DL.opAdd_l, DL.opIx_l, DL.opIx_t, DL.opSl_t, DL.opSl_l, DL.opRev_t, DL.opRev_l, DL.bList_l, DL.bList_t, DL.bTup_l, DL.bTup_t, DL.atI0, DL.atI1, DL.atI2, DL.atI3]
  refine ⟨d, 4, rfl, by decide, _, rfl, _, rfl, ?_⟩
  cases h : areW d 4 with
  | false =>
    rw [if_neg (by decide)]
    have e : isAny d = false := by
      unfold isAny
      split
      · simp [areW, isInt] at h
      · rfl
    rwa [e] at q
  | true =>
    obtain ⟨x, y, p, r, rfl⟩ := areW4 h
    rw [if_pos rfl]
    simp only [DL.mSeq, DL.mAsg, DL.mAsgR, DL.mAsgM, DL.mrs, DL.ssets, DL.mIf, DL.mRet, DL.mRetN, DL.mrOf, DL.mrLst, DL.mrCat, DL.mrCall, DL.mDrop, DL.mNext, DL.mBreak, DL.mCont, DL.mC, DL.mVar, DL.mOp2, DL.mOp1, DL.mAnd, DL.mOr, DL.mNot, DL.mIfE, DL.mChain, DL.mNil, DL.mCons, DL.mTup, DL.mLst, DL.mCallB, DL.mDict0, DL.mPart, DL.mNoPart, DL.mSl, DL.mCall, DL.mCallK, DL.mCallW, DL.mLenScr, DL.mWell, DL.mT, DL.mTAnd, DL.mTOr, DL.mTNot, DL.mTYes, DL.mgName, DL.mgNil, DL.mgCons, DL.mgTup, DL.miSeq, DL.miRng1, DL.miRng2, DL.mRaise, DL.mApp, DL.mFor, DL.mLc, DL.mrLc, DL.sget, DL.sset, DL.slots0, DL.slotsW, DL.endP, DL.endW, DL.endL, DL.wF, DL.fz_va, DL.fz_own, List.length_cons, List.length_nil, List.map_cons, List.map_nil, List.replicate_succ, List.replicate_zero, Nat.reduceAdd, Nat.reduceSub, Nat.reduceLeDiff, List.cons_append, List.nil_append, Nat.zero_add, Nat.add_zero, Nat.sub_self, Option.some.injEq, PyData.bool.injEq, PyData.int.injEq, PyData.tuple.injEq, PyData.list.injEq, PyData.str.injEq, List.cons.injEq, DL.S.va.injEq, DL.S.own.injEq, DL.S.well.injEq, DL.S.scr.injEq, and_true, true_and, exists_eq_left', exists_eq_left, exists_eq_right, exists_eq_right', exists_and_left, exists_and_right, exists_eq, exists_eq', reduceCtorEq, false_and, and_false, exists_const, if_true, if_false, Bool.false_eq_true, reduceIte, Bool.not_true, Bool.not_false, DL.bIsi, List.any_cons, List.any_nil, Bool.or_false, Bool.or_true, Bool.false_or, Bool.true_or, DL.isK, DL.opAdd_i, DL.opSub_i, DL.opMul_i, DL.opMod_i, DL.opFdiv_i, DL.opPow_i, DL.opLt_i, DL.opLe_i, DL.opGt_i, DL.opGe_i, DL.opEq_int, DL.opNe_int, DL.opEq_str, DL.opNe_str, DL.opIsN_n, DL.opNotN_n, DL.isN, DL.opIsB_b, DL.opNotB_b, DL.opNeg_i, DL.bAbs_i, DL.bMax_i, DL.bMin_i, DL.bInt_i, DL.bGcd_i, DL.bLen_l, DL.bLen_t, DL.opAdd_t, DL.opAdd_l, DL.opIx_l, DL.opIx_t, DL.opSl_t, DL.opSl_l, DL.opRev_t, DL.opRev_l, DL.bList_l, DL.bList_t, DL.bTup_l, DL.bTup_t, DL.atI0, DL.atI1, DL.atI2, DL.atI3]
    by_cases h1 : 0 ≤ x
    · rw [if_pos (by simpa using h1)]
      by_cases h2 : 0 ≤ y
      · rw [if_pos (by simpa using h2)]
        by_cases h3 : p = 0
        · rw [if_neg (by simpa using h3)]
          simpa [isAny, h1, h2, h3] using q
        · rw [if_pos (by simpa using h3)]
          simpa [isAny, h1, h2, h3] using q
      · rw [if_neg (by simpa using h2)]
        simpa [isAny, h1, h2] using q
    · rw [if_neg (by simpa using h1)]
      simpa [isAny, h1] using q
section
variable {P : Program} {w : World} {K : PySem.W.Frag} {mg : Str → Option Value} {base : Heap} {CN : String → Option Addr}
theorem ok_is_any_shot {f : Addr} {fd : FuncData} (F : Fun K "is_any_shot" "is_any_shot" s_is_any_shot f fd) (g : G K mg CN) (c_are_whole : CalP P w K mg base CN 2 "are_whole" D_are_whole) : FnG P w K mg base 3 f fd ["value"] (spP K CN D_is_any_shot) := by
  have sc := sc_is_any_shot
  exact fun_okP (m := m_is_any_shot) F sc (by decide) len_is_any_shot (fun cdv A outer s H E C W hw hr tk =>
    (pds_one (pds_ret (pdr_of (pd_and (pd_call c_are_whole hr (by decide) tk (pda_cons (dv 0) (pda_cons pd_int pda_nil))) (pd_and (pd_cmp op_ge rl_cmpI (pd_ix ix_seq rl_ix (dv 0) pd_int) pd_int (nomark _)) (pd_and (pd_cmp op_ge rl_cmpI (pd_ix ix_seq rl_ix (dv 0) pd_int) pd_int (nomark _)) (pd_one (pd_or (pd_cmp (or_neD (RoomG.u64 hr)) rl_ne (pd_ix ix_seq rl_ix (dv 0) pd_int) pd_int (nomark _)) (pd_one (pd_cmp (or_neD (RoomG.u64 hr)) rl_ne (pd_ix ix_seq rl_ix (dv 0) pd_int) pd_int (nomark _)))))))))))) rd_is_any_shot
end
end LW
namespace LW
open PySem PySem.Spec PyProof.Rows L2 DL
def m_is_shot (W : WD) : MS :=
  mSeq (mDrop (mCall D_check_table W (mCons (mVar 0) (mNil))))
  (mRet (mrOf (mAnd (mCall D_is_any_shot W (mCons (mVar 1) (mNil))) (mAnd (mOp2 opLe (mOp2 opIx (mVar 1) (mC (.int 0))) (mOp2 opIx (mVar 0) (mC (.int 0)))) (mOp2 opLe (mOp2 opIx (mVar 1) (mC (.int 1))) (mOp2 opIx (mVar 0) (mC (.int 1))))))))
def isShot : PyData → PyData → Bool
  | .tuple [.int a, .int b], .tuple [.int x, .int y, .int p, .int q] => decide (0 ≤ x) && decide (0 ≤ y) && (!decide (p = 0) || !decide (q = 0)) && decide (x ≤ a) && decide (y ≤ b)
  | _, _ => false
theorem tab_inv {d : PyData} (h : isTab d = true) : ∃ a b, d = .tuple [.int a, .int b] ∧ 1 ≤ a ∧ 1 ≤ b := by
  unfold isTab at h
  split at h
  · rename_i a b
    simp only [Bool.and_eq_true, decide_eq_true_eq] at h
    exact ⟨a, b, rfl, h.1, h.2⟩
  · cases h
theorem any_inv {d : PyData} (h : isAny d = true) : ∃ x y p q, d = .tuple [.int x, .int y, .int p, .int q] ∧ 0 ≤ x ∧ 0 ≤ y ∧ (p ≠ 0 ∨ q ≠ 0) := by
  unfold isAny at h
  split at h
  · rename_i x y p q
    simp only [Bool.and_eq_true, Bool.or_eq_true, decide_eq_true_eq, Bool.not_eq_true', decide_eq_false_iff_not] at h
    exact ⟨x, y, p, q, rfl, h.1.1, h.1.2, h.2⟩
  · cases h
theorem shot_any {t d : PyData} (h : isAny d = false) : isShot t d = false := by
  unfold isShot
  split
  · simp only [isAny] at h
    simp only [h, Bool.false_and]
  · rfl
def D_is_shot : PSpec := fun ds Q E => ∃ t v, ds = [t, v] ∧ (isTab t = false → E "InvalidTable") ∧ (isTab t = true → Q (.va (.bool (isShot t v))))
theorem len_is_shot : ∀ ds Q E, D_is_shot ds Q E → ds.length = 2 := by
  rintro _ Q E ⟨t, d, rfl, _⟩
  rfl
theorem rd_is_shot : ∀ ds Q E, D_is_shot ds Q E → m_is_shot (fun c _ => E c) (endP Q) (slots0 2 ds) := by
  rintro _ Q E ⟨t, d, rfl, q1, q2⟩
  unfold m_is_shot
  simp only [DL.mSeq, DL.mAsg, DL.mAsgR, DL.mAsgM, DL.mrs, DL.ssets, DL.mIf, DL.mRet, DL.mRetN, DL.mrOf, DL.mrLst, DL.mrCat, DL.mrCall, DL.mDrop, DL.mNext, DL.mBreak, DL.mCont, DL.mC, DL.mVar, DL.mOp2, DL.mOp1, DL.mAnd, DL.mOr, DL.mNot, DL.mIfE, DL.mChain, DL.mNil, DL.mCons, DL.mTup, DL.mLst, DL.mCallB, DL.mDict0, DL.mPart, DL.mNoPart, DL.mSl, DL.mCall, DL.mCallK, DL.mCallW, DL.mLenScr, DL.mWell, DL.mT, DL.mTAnd, DL.mTOr, DL.mTNot, DL.mTYes, DL.mgName, DL.mgNil, DL.mgCons, DL.mgTup, DL.miSeq, DL.miRng1, DL.miRng2, DL.mRaise, DL.mApp, DL.mFor, DL.mLc, DL.mrLc, DL.sget, DL.sset, DL.slots0, DL.slotsW, DL.endP, DL.endW, DL.endL, DL.wF, DL.fz_va, DL.fz_own, List.length_cons, List.length_nil, List.map_cons, List.map_nil, List.replicate_succ, List.replicate_zero, Nat.reduceAdd, Nat.reduceSub, Nat.reduceLeDiff, List.cons_append, List.nil_append, Nat.zero_add, Nat.add_zero, Nat.sub_self, Option.some.injEq, PyData.bool.injEq, PyData.int.injEq, PyData.tuple.injEq, PyData.list.injEq, PyData.str.injEq, List.cons.injEq, DL.S.va.injEq, DL.S.own.injEq, DL.S.well.injEq, DL.S.scr.injEq, and_true, true_and, exists_eq_left', exists_eq_left, exists_eq_right, exists_eq_right', exists_and_left, exists_and_right, exists_eq, exists_eq', reduceCtorEq, false_and, and_false, exists_const, if_true, if_false, Bool.false_eq_true, reduceIte, Bool.not_true, Bool.not_false, DL.bIsi, List.any_cons, List.any_nil, Bool.or_false, Bool.or_true, Bool.false_or, Bool.true_or, DL.isK, DL.opAdd_i, DL.opSub_i, DL.opMul_i, DL.opMod_i, DL.opFdiv_i, DL.opPow_i, DL.opLt_i, DL.opLe_i, DL.opGt_i, DL.opGe_i, DL.opEq_int, DL.opNe_int, DL.opEq_str, DL.opNe_str, DL.opIsN_n, DL.opNotN_n, DL.isN, DL.opIsB_b, DL.opNotB_b, DL.opNeg_i, DL.bAbs_i, DL.bMax_i, DL.bMin_i, DL.bInt_i, DL.bGcd_i, DL.bLen_l, DL.bLen_t, DL.opAdd_t, DL.opAdd_l, DL.opIx_l, DL.opIx_t, DL.opSl_t, DL.opSl_l, DL.opRev_t, DL.opRev_l, DL.bList_l, DL.bList_t, DL.bTup_l, DL.bTup_t, DL.atI0, DL.atI1, DL.atI2, DL.atI3]
  refine ⟨t, rfl, fun ht => ⟨⟨_, rfl⟩, ?_⟩, q1⟩
  have q := q2 ht
  obtain ⟨a, b, rfl, ha, hb⟩ := tab_inv ht
  refine ⟨d, rfl, _, rfl, _, rfl, ?_⟩
  cases h : isAny d with
  | false =>
    rw [if_neg (by decide)]
    have e : isShot (.tuple [.int a, .int b]) d = false := shot_any h
    rwa [e] at q
  | true =>
    obtain ⟨x, y, p, r, rfl, _⟩ := any_inv h
    rw [if_pos rfl]
    simp only [DL.mSeq, DL.mAsg, DL.mAsgR, DL.mAsgM, DL.mrs, DL.ssets, DL.mIf, DL.mRet, DL.mRetN, DL.mrOf, DL.mrLst, DL.mrCat, DL.mrCall, DL.mDrop, DL.mNext, DL.mBreak, DL.mCont, DL.mC, DL.mVar, DL.mOp2, DL.mOp1, DL.mAnd, DL.mOr, DL.mNot, DL.mIfE, DL.mChain, DL.mNil, DL.mCons, DL.mTup, DL.mLst, DL.mCallB, DL.mDict0, DL.mPart, DL.mNoPart, DL.mSl, DL.mCall, DL.mCallK, DL.mCallW, DL.mLenScr, DL.mWell, DL.mT, DL.mTAnd, DL.mTOr, DL.mTNot, DL.mTYes, DL.mgName, DL.mgNil, DL.mgCons, DL.mgTup, DL.miSeq, DL.miRng1, DL.miRng2, DL.mRaise, DL.mApp, DL.mFor, DL.mLc, DL.mrLc, DL.sget, DL.sset, DL.slots0, DL.slotsW, DL.endP, DL.endW, DL.endL, DL.wF, DL.fz_va, DL.fz_own, List.length_cons, List.length_nil, List.map_cons, List.map_nil, List.replicate_succ, List.replicate_zero, Nat.reduceAdd, Nat.reduceSub, Nat.reduceLeDiff, List.cons_append, List.nil_append, Nat.zero_add, Nat.add_zero, Nat.sub_self, Option.some.injEq, PyData.bool.injEq, PyData.int.injEq, PyData.tuple.injEq, PyData.list.injEq, PyData.str.injEq, List.cons.injEq, DL.S.va.injEq, DL.S.own.injEq, DL.S.well.injEq, DL.S.scr.injEq, and_true, true_and, exists_eq_left', exists_eq_left, exists_eq_right, exists_eq_right', exists_and_left, exists_and_right, exists_eq, exists_eq', reduceCtorEq, false_and, and_false, exists_const, if_true, if_false, Bool.false_eq_true, reduceIte, Bool.not_true, Bool.not_false, DL.bIsi, List.any_cons, List.any_nil, Bool.or_false, Bool.or_true, Bool.false_or, Bool.true_or, DL.isK, DL.opAdd_i, DL.opSub_i, DL.opMul_i, DL.opMod_i, DL.opFdiv_i, DL.opPow_i, DL.opLt_i, DL.opLe_i, DL.opGt_i, DL.opGe_i, DL.opEq_int, DL.opNe_int, DL.opEq_str, DL.opNe_str, DL.opIsN_n, DL.opNotN_n, DL.isN, DL.opIsB_b, DL.opNotB_b, DL.opNeg_i, DL.bAbs_i, DL.bMax_i, DL.bMin_i, DL.bInt_i, DL.bGcd_i, DL.bLen_l, DL.bLen_t, DL.opAdd_t, DL.opAdd_l, DL.opIx_l, DL.opIx_t, DL.opSl_t, DL.opSl_l, DL.opRev_t, DL.opRev_l, DL.bList_l, DL.bList_t, DL.bTup_l, DL.bTup_t, DL.atI0, DL.atI1, DL.atI2, DL.atI3]
    have h' := h
    simp only [isAny] at h'
    by_cases h1 : x ≤ a
    · rw [if_pos (by simpa using h1)]
      simp only [isShot] at q
      rw [h'] at q
      simpa [h1] using q
    · rw [if_neg (by simpa using h1)]
      simp only [isShot] at q
      rw [h'] at q
      simpa [h1] using q
theorem shot_inv {t v : PyData} (h : isShot t v = true) : ∃ a b x y p q, t = .tuple [.int a, .int b] ∧ v = .tuple [.int x, .int y, .int p, .int q] ∧ 0 ≤ x ∧ x ≤ a ∧ 0 ≤ y ∧ y ≤ b ∧ (p ≠ 0 ∨ q ≠ 0) := by
  unfold isShot at h
  split at h
  · rename_i a b x y p q
    simp only [Bool.and_eq_true, Bool.or_eq_true, decide_eq_true_eq, Bool.not_eq_true', decide_eq_false_iff_not] at h
    exact ⟨a, b, x, y, p, q, rfl, rfl, h.1.1.1.1, h.1.2, h.1.1.1.2, h.2, h.1.1.2⟩
  · cases h
def szD : PyData → Prop
  | .tuple [.int a, .int b] => sz 1000 a ∧ sz 1000 b
  | .tuple [.int a, .int b, .int c, .int d] => sz 1000 a ∧ sz 1000 b ∧ sz 1000 c ∧ sz 1000 d
  | _ => True
section
variable {P : Program} {w : World} {K : PySem.W.Frag} {mg : Str → Option Value} {base : Heap} {CN : String → Option Addr}
theorem ok_is_shot {f : Addr} {fd : FuncData} (F : Fun K "is_shot" "is_shot" s_is_shot f fd) (g : G K mg CN) (c_check_table : CalP P w K mg base CN 4 "check_table" D_check_table) (c_is_any_shot : CalP P w K mg base CN 3 "is_any_shot" D_is_any_shot) : FnG P w K mg base 5 f fd ["table", "value"] (spP K CN D_is_shot) := by
  have sc := sc_is_shot
  exact fun_okP (m := m_is_shot) F sc (by decide) len_is_shot (fun cdv A outer s H E C W hw hr tk =>
    (pds_cons (pds_drop (pd_call c_check_table hr (by decide) tk (pda_cons (dv 0) pda_nil)))
    (pds_one (pds_ret (pdr_of (pd_and (pd_call c_is_any_shot hr (by decide) tk (pda_cons (dv 1) pda_nil)) (pd_and (pd_cmp op_le rl_cmpI (pd_ix ix_seq rl_ix (dv 1) pd_int) (pd_ix ix_seq rl_ix (dv 0) pd_int) (nomark _)) (pd_one (pd_cmp op_le rl_cmpI (pd_ix ix_seq rl_ix (dv 1) pd_int) (pd_ix ix_seq rl_ix (dv 0) pd_int) (nomark _)))))))))) rd_is_shot
end
end LW
namespace LW
open PySem PySem.Spec PyProof.Rows L2 DL
def m_is_fraction (W : WD) : MS :=
  mRet (mrOf (mAnd (mCall D_are_whole W (mCons (mVar 0) (mCons (mC (.int 2)) (mNil)))) (mAnd (mOp2 opGe (mOp2 opIx (mVar 0) (mC (.int 1))) (mC (.int 1))) (mOp2 opEq (mCallB bGcd (mCons (mOp2 opIx (mVar 0) (mC (.int 0))) (mCons (mOp2 opIx (mVar 0) (mC (.int 1))) (mNil)))) (mC (.int 1))))))
def isFrac : PyData → Bool
  | .tuple [.int a, .int b] => decide (1 ≤ b) && (Nat.gcd a.natAbs b.natAbs == 1)
  | _ => false
def D_is_fraction : PSpec := fun ds Q _ => ∃ d, ds = [d] ∧ Q (.va (.bool (isFrac d)))
theorem len_is_fraction : ∀ ds Q E, D_is_fraction ds Q E → ds.length = 1 := by
  rintro _ Q E ⟨d, rfl, _⟩
  rfl
theorem rd_is_fraction : ∀ ds Q E, D_is_fraction ds Q E → m_is_fraction (fun c _ => E c) (endP Q) (slots0 1 ds) := by
  rintro _ Q E ⟨d, rfl, q⟩
  unfold m_is_fraction
  simp only [DL.mSeq, DL.mAsg, DL.mAsgR, DL.mAsgM, DL.mrs, DL.ssets, DL.mIf, DL.mRet, DL.mRetN, DL.mrOf, DL.mrLst, DL.mrCat, DL.mrCall, DL.mDrop, DL.mNext, DL.mBreak, DL.mCont, DL.mC, DL.mVar, DL.mOp2, DL.mOp1, DL.mAnd, DL.mOr, DL.mNot, DL.mIfE, DL.mChain, DL.mNil, DL.mCons, DL.mTup, DL.mLst, DL.mCallB, DL.mDict0, DL.mPart, DL.mNoPart, DL.mSl, DL.mCall, DL.mCallK, DL.mCallW, DL.mLenScr, DL.mWell, DL.mT, DL.mTAnd, DL.mTOr, DL.mTNot, DL.mTYes, DL.mgName, DL.mgNil, DL.mgCons, DL.mgTup, DL.miSeq, DL.miRng1, DL.miRng2, DL.mRaise, DL.mApp, DL.mFor, DL.mLc, DL.mrLc, DL.sget, DL.sset, DL.slots0, DL.slotsW, DL.endP, DL.endW, DL.endL, DL.wF, DL.fz_va, DL.fz_own, List.length_cons, List.length_nil, List.map_cons, List.map_nil, List.replicate_succ, List.replicate_zero, Nat.reduceAdd, Nat.reduceSub, Nat.reduceLeDiff, List.cons_append, List.nil_append, Nat.zero_add, Nat.add_zero, Nat.sub_self, Option.some.injEq, PyData.bool.injEq, PyData.int.injEq, PyData.tuple.injEq, PyData.list.injEq, PyData.str.injEq, List.cons.injEq, DL.S.va.injEq, DL.S.own.injEq, DL.S.well.injEq, DL.S.scr.injEq, and_true, true_and, exists_eq_left', exists_eq_left, exists_eq_right, exists_eq_right', exists_and_left, exists_and_right, exists_eq, exists_eq', reduceCtorEq, false_and, and_false, exists_const, if_true, if_false, Bool.false_eq_true, reduceIte, Bool.not_true, Bool.not_false, DL.bIsi, List.any_cons, List.any_nil, Bool.or_false, Bool.or_true, Bool.false_or, Bool.true_or, DL.isK, DL.opAdd_i, DL.opSub_i, DL.opMul_i, DL.opMod_i, DL.opFdiv_i, DL.opPow_i, DL.opLt_i, DL.opLe_i, DL.opGt_i, DL.opGe_i, DL.opEq_int, DL.opNe_int, DL.opEq_str, DL.opNe_str, DL.opIsN_n, DL.opNotN_n, DL.isN, DL.opIsB_b, DL.opNotB_b, DL.opNeg_i, DL.bAbs_i, DL.bMax_i, DL.bMin_i, DL.bInt_i, DL.bGcd_i, DL.bLen_l, DL.bLen_t, DL.opAdd_t, DL.opAdd_l, DL.opIx_l, DL.opIx_t, DL.opSl_t, DL.opSl_l, DL.opRev_t, DL.opRev_l, DL.bList_l, DL.bList_t, DL.bTup_l, DL.bTup_t, DL.atI0, DL.atI1, DL.atI2, DL.atI3]
  refine ⟨d, 2, rfl, by decide, _, rfl, _, rfl, ?_⟩
  cases h : areW d 2 with
  | false =>
    rw [if_neg (by decide)]
    have e : isFrac d = false := by
      unfold isFrac
      split
      · simp [areW, isInt] at h
      · rfl
    rwa [e] at q
  | true =>
    obtain ⟨a, b, rfl⟩ := areW2 h
    rw [if_pos rfl]
    simp only [DL.mSeq, DL.mAsg, DL.mAsgR, DL.mAsgM, DL.mrs, DL.ssets, DL.mIf, DL.mRet, DL.mRetN, DL.mrOf, DL.mrLst, DL.mrCat, DL.mrCall, DL.mDrop, DL.mNext, DL.mBreak, DL.mCont, DL.mC, DL.mVar, DL.mOp2, DL.mOp1, DL.mAnd, DL.mOr, DL.mNot, DL.mIfE, DL.mChain, DL.mNil, DL.mCons, DL.mTup, DL.mLst, DL.mCallB, DL.mDict0, DL.mPart, DL.mNoPart, DL.mSl, DL.mCall, DL.mCallK, DL.mCallW, DL.mLenScr, DL.mWell, DL.mT, DL.mTAnd, DL.mTOr, DL.mTNot, DL.mTYes, DL.mgName, DL.mgNil, DL.mgCons, DL.mgTup, DL.miSeq, DL.miRng1, DL.miRng2, DL.mRaise, DL.mApp, DL.mFor, DL.mLc, DL.mrLc, DL.sget, DL.sset, DL.slots0, DL.slotsW, DL.endP, DL.endW, DL.endL, DL.wF, DL.fz_va, DL.fz_own, List.length_cons, List.length_nil, List.map_cons, List.map_nil, List.replicate_succ, List.replicate_zero, Nat.reduceAdd, Nat.reduceSub, Nat.reduceLeDiff, List.cons_append, List.nil_append, Nat.zero_add, Nat.add_zero, Nat.sub_self, Option.some.injEq, PyData.bool.injEq, PyData.int.injEq, PyData.tuple.injEq, PyData.list.injEq, PyData.str.injEq, List.cons.injEq, DL.S.va.injEq, DL.S.own.injEq, DL.S.well.injEq, DL.S.scr.injEq, and_true, true_and, exists_eq_left', exists_eq_left, exists_eq_right, exists_eq_right', exists_and_left, exists_and_right, exists_eq, exists_eq', reduceCtorEq, false_and, and_false, exists_const, if_true, if_false, Bool.false_eq_true, reduceIte, Bool.not_true, Bool.not_false, DL.bIsi, List.any_cons, List.any_nil, Bool.or_false, Bool.or_true, Bool.false_or, Bool.true_or, DL.isK, DL.opAdd_i, DL.opSub_i, DL.opMul_i, DL.opMod_i, DL.opFdiv_i, DL.opPow_i, DL.opLt_i, DL.opLe_i, DL.opGt_i, DL.opGe_i, DL.opEq_int, DL.opNe_int, DL.opEq_str, DL.opNe_str, DL.opIsN_n, DL.opNotN_n, DL.isN, DL.opIsB_b, DL.opNotB_b, DL.opNeg_i, DL.bAbs_i, DL.bMax_i, DL.bMin_i, DL.bInt_i, DL.bGcd_i, DL.bLen_l, DL.bLen_t, DL.opAdd_t, DL.opAdd_l, DL.opIx_l, DL.opIx_t, DL.opSl_t, DL.opSl_l, DL.opRev_t, DL.opRev_l, DL.bList_l, DL.bList_t, DL.bTup_l, DL.bTup_t, DL.atI0, DL.atI1, DL.atI2, DL.atI3]
    by_cases h1 : 1 ≤ b
    · rw [if_pos (by simpa using h1)]
      have e : ∀ g : Nat, decide (((g : Nat) : Int) = 1) = (g == 1) := fun g => by
        by_cases z : g = 1
        · subst z; rfl
        · rw [decide_eq_false (by omega), beq_false_of_ne z]
      rw [e]
      have q' : Q (.va (.bool (decide (1 ≤ b) && (Nat.gcd a.natAbs b.natAbs == 1)))) := q
      rw [decide_eq_true h1, Bool.true_and] at q'
      exact q'
    · rw [if_neg (by simpa using h1)]
      simpa [isFrac, h1] using q
theorem frac_inv {d : PyData} (h : isFrac d = true) : ∃ n m, d = .tuple [.int n, .int m] ∧ 1 ≤ m ∧ Nat.gcd n.natAbs m.natAbs = 1 := by
  unfold isFrac at h
  split at h
  · rename_i a b
    simp only [Bool.and_eq_true, decide_eq_true_eq, beq_iff_eq] at h
    exact ⟨a, b, rfl, h.1, h.2⟩
  · cases h
section
variable {P : Program} {w : World} {K : PySem.W.Frag} {mg : Str → Option Value} {base : Heap} {CN : String → Option Addr}
theorem ok_is_fraction {f : Addr} {fd : FuncData} (F : Fun K "is_fraction" "is_fraction" s_is_fraction f fd) (g : G K mg CN) (c_are_whole : CalP P w K mg base CN 2 "are_whole" D_are_whole) : FnG P w K mg base 3 f fd ["value"] (spP K CN D_is_fraction) := by
  have sc := sc_is_fraction
  exact fun_okP (m := m_is_fraction) F sc (by decide) len_is_fraction (fun cdv A outer s H E C W hw hr tk =>
    (pds_one (pds_ret (pdr_of (pd_and (pd_call c_are_whole hr (by decide) tk (pda_cons (dv 0) (pda_cons pd_int pda_nil))) (pd_and (pd_cmp op_ge rl_cmpI (pd_ix ix_seq rl_ix (dv 0) pd_int) pd_int (nomark _)) (pd_one (pd_cmp (or_eqD (RoomG.u64 hr)) rl_eq (pd_gcd g.b_gcd (pda_cons (pd_ix ix_seq rl_ix (dv 0) pd_int) (pda_cons (pd_ix ix_seq rl_ix (dv 0) pd_int) pda_nil))) pd_int (nomark _))))))))) rd_is_fraction
end
end LW
namespace LW
open PySem PySem.Spec PyProof.Rows L2 DL
def m__fold (W : WD) : MS :=
  mSeq (mAsg (mVar 1) (mgTup 2 (mgCons (mgName 2) (mgCons (mgName 3) (mgNil)))))
  (mSeq (mAsg (mOp2 opMod (mVar 2) (mOp2 opMul (mOp2 opMul (mC (.int 2)) (mVar 0)) (mVar 3))) (mgName 4))
  (mSeq (mIf (mT (mOp2 opLe (mVar 4) (mOp2 opMul (mVar 0) (mVar 3)))) (mRet (mrOf (mTup (mCons (mVar 4) (mCons (mVar 3) (mNil)))))) (mNext))
  (mRet (mrOf (mTup (mCons (mOp2 opSub (mOp2 opMul (mOp2 opMul (mC (.int 2)) (mVar 0)) (mVar 3)) (mVar 4)) (mCons (mVar 3) (mNil))))))))
def foldD (s t b : Int) : PyData := if t % (2 * s * b) ≤ s * b then .tuple [.int (t % (2 * s * b)), .int b] else .tuple [.int (2 * s * b - t % (2 * s * b)), .int b]
def D__fold : PSpec := fun ds Q _ => ∃ s t b, ds = [.int s, .tuple [.int t, .int b]] ∧ 1 ≤ s ∧ 1 ≤ b ∧ sz 8000 s ∧ sz 8000 b ∧ Q (.va (foldD s t b))
theorem len__fold : ∀ ds Q E, D__fold ds Q E → ds.length = 2 := by
  rintro _ Q E ⟨s, t, b, rfl, _⟩
  rfl
theorem rd__fold : ∀ ds Q E, D__fold ds Q E → m__fold (fun c _ => E c) (endP Q) (slots0 5 ds) := by
  rintro _ Q E ⟨s, t, b, rfl, hs, hb, zs, zb, q⟩
  have z2 : sz 2 2 := by unfold sz; decide
  have m1 : opMul (.int 2) (.int s) = some (.int (2 * s)) := opMul_ok z2 zs (by decide)
  have m2 : opMul (.int (2 * s)) (.int b) = some (.int (2 * s * b)) := opMul_ok (sz_mul z2 zs) zb (by decide)
  have m3 : opMul (.int s) (.int b) = some (.int (s * b)) := opMul_ok zs zb (by decide)
  have p1 : 0 < s * b := Int.mul_pos (by omega) (by omega)
  have p2 : 0 < 2 * s * b := Int.mul_pos (by omega) (by omega)
  have m4 : opMod (.int t) (.int (2 * s * b)) = some (.int (t % (2 * s * b))) := opMod_ok p2
  unfold m__fold
  simp only [DL.mSeq, DL.mAsg, DL.mAsgR, DL.mAsgM, DL.mrs, DL.ssets, DL.mIf, DL.mRet, DL.mRetN, DL.mrOf, DL.mrLst, DL.mrCat, DL.mrCall, DL.mDrop, DL.mNext, DL.mBreak, DL.mCont, DL.mC, DL.mVar, DL.mOp2, DL.mOp1, DL.mAnd, DL.mOr, DL.mNot, DL.mIfE, DL.mChain, DL.mNil, DL.mCons, DL.mTup, DL.mLst, DL.mCallB, DL.mDict0, DL.mPart, DL.mNoPart, DL.mSl, DL.mCall, DL.mCallK, DL.mCallW, DL.mLenScr, DL.mWell, DL.mT, DL.mTAnd, DL.mTOr, DL.mTNot, DL.mTYes, DL.mgName, DL.mgNil_n, DL.mgCons_c, DL.mgTup_t, DL.mgTup_l, DL.miSeq, DL.miRng1, DL.miRng2, DL.mRaise, DL.mApp, DL.mFor, DL.mLc, DL.mrLc, DL.sget, DL.sset, DL.slots0, DL.slotsW, DL.endP, DL.endW, DL.endL, DL.wF, DL.fz_va, DL.fz_own, List.length_cons, List.length_nil, List.map_cons, List.map_nil, List.replicate_succ, List.replicate_zero, Nat.reduceAdd, Nat.reduceSub, Nat.reduceLeDiff, List.cons_append, List.nil_append, Nat.zero_add, Nat.add_zero, Nat.sub_self, Option.some.injEq, PyData.bool.injEq, PyData.int.injEq, PyData.tuple.injEq, PyData.list.injEq, PyData.str.injEq, List.cons.injEq, DL.S.va.injEq, DL.S.own.injEq, DL.S.well.injEq, DL.S.scr.injEq, and_true, true_and, exists_eq_left', exists_eq_left, exists_eq_right, exists_eq_right', exists_and_left, exists_and_right, exists_eq, exists_eq', reduceCtorEq, false_and, and_false, exists_const, if_true, if_false, Bool.false_eq_true, reduceIte, Bool.not_true, Bool.not_false, DL.bIsi, List.any_cons, List.any_nil, Bool.or_false, Bool.or_true, Bool.false_or, Bool.true_or, DL.isK, DL.opAdd_i, DL.opSub_i, DL.opLt_i, DL.opLe_i, DL.opGt_i, DL.opGe_i, DL.opEq_int, DL.opNe_int, DL.opEq_b, DL.opNe_b, DL.opEq_nn, beq_self_eq_true, DL.opEq_str, DL.opNe_str, DL.opIsN_n, DL.opNotN_n, DL.isN, DL.opIsB_b, DL.opNotB_b, DL.opNeg_i, DL.bAbs_i, DL.bMax_i, DL.bMin_i, DL.bInt_i, DL.bGcd_i, DL.bLen_l, DL.bLen_t, DL.opAdd_t, DL.opAdd_l, DL.opIx_l, DL.opIx_t, DL.opSl_t, DL.opSl_l, DL.opRev_t, DL.opRev_l, DL.bList_l, DL.bList_t, DL.bTup_l, DL.bTup_t, DL.atI0, DL.atI1, DL.atI2, DL.atI3, DL.items_t, DL.items_l]
  refine ⟨_, m1, _, m2, _, m4, _, m3, _, rfl, _, rfl, ?_⟩
  by_cases h : t % (2 * s * b) ≤ s * b
  · rw [if_pos (decide_eq_true h)]
    rw [foldD, if_pos h] at q
    exact q
  · rw [if_neg (by simpa using h)]
    rw [foldD, if_neg h] at q
    exact ⟨_, m1, _, m2, _, rfl, q⟩
/-- what a fold is: R behind it, as many parts of B -/
theorem fold_is {s T B : Int} (hs : 1 ≤ s) (hB : 1 ≤ B) : ∃ R k, foldD s T B = .tuple [.int R, .int B] ∧ (R = T + B * k ∨ R = -T + B * k) ∧ (R = T % (2 * s * B) ∧ T % (2 * s * B) ≤ s * B ∨ R = 2 * s * B - T % (2 * s * B) ∧ s * B < T % (2 * s * B)) := by
  have e := Int.emod_add_mul_ediv T (2 * s * B)
  unfold foldD
  by_cases h : T % (2 * s * B) ≤ s * B
  · rw [if_pos h]
    refine ⟨_, -(2 * s * (T / (2 * s * B))), rfl, .inl ?_, .inl ⟨rfl, h⟩⟩
    have : 2 * s * B * (T / (2 * s * B)) = B * (2 * s * (T / (2 * s * B))) := by simp only [Int.mul_assoc, Int.mul_comm, Int.mul_left_comm]
    rw [Int.mul_neg]
    omega
  · rw [if_neg h]
    refine ⟨_, 2 * s + 2 * s * (T / (2 * s * B)), rfl, .inr ?_, .inr ⟨rfl, by omega⟩⟩
    have e2 : 2 * s * B * (T / (2 * s * B)) = B * (2 * s * (T / (2 * s * B))) := by simp only [Int.mul_assoc, Int.mul_comm, Int.mul_left_comm]
    have e3 : 2 * s * B = B * (2 * s) := by simp only [Int.mul_assoc, Int.mul_comm, Int.mul_left_comm]
    rw [Int.mul_add]
    omega
section
variable {P : Program} {w : World} {K : PySem.W.Frag} {mg : Str → Option Value} {base : Heap} {CN : String → Option Addr}
theorem ok__fold {f : Addr} {fd : FuncData} (F : Fun K "_fold" "_fold" s__fold f fd) (g : G K mg CN)  : FnG P w K mg base 1 f fd ["side", "number"] (spP K CN D__fold) := by
  have sc := sc__fold
  exact fun_okP (m := m__fold) F sc (by decide) len__fold (fun cdv A outer s H E C W hw hr tk =>
    (pds_cons (pds_asg (ps_asg (dv 1) (pdg_tup rfl (gcons (dg 2 sc.nd) (gcons (dg 3 sc.nd) pdgs_nil)))))
    (pds_cons (pds_asg (ps_asg (pd_op op_mod rl_mod (dv 2) (pd_op or_mul rl_mul (pd_op or_mul rl_mul pd_int (dv 0)) (dv 3))) (dg 4 sc.nd)))
    (pds_cons (pds_if (pdt_cmp op_le rl_cmpI (dv 4) (pd_op or_mul rl_mul (dv 0) (dv 3)) (nomark _)) (pds_one (pds_ret (pdr_of (pd_tup (pda_cons (dv 4) (pda_cons (dv 3) pda_nil)))))) pds_nil)
    (pds_one (pds_ret (pdr_of (pd_tup (pda_cons (pd_op op_sub rl_sub (pd_op or_mul rl_mul (pd_op or_mul rl_mul pd_int (dv 0)) (dv 3)) (dv 4)) (pda_cons (dv 3) pda_nil)))))))))) rd__fold
end
end LW
namespace LW
open PySem PySem.Spec PyProof.Rows L2 DL
def m_check_time (W : WD) : MS :=
  mIf (mTNot (mT (mCall D_is_fraction W (mCons (mVar 0) (mNil))))) (mRaise "InvalidTime" W) (mNext)
def D_check_time : PSpec := fun ds Q E => ∃ d, ds = [d] ∧ (isFrac d = true → Q (.va .none)) ∧ (isFrac d = false → E "InvalidTime")
theorem len_check_time : ∀ ds Q E, D_check_time ds Q E → ds.length = 1 := by
  rintro _ Q E ⟨d, rfl, _⟩
  rfl
theorem rd_check_time : ∀ ds Q E, D_check_time ds Q E → m_check_time (fun c _ => E c) (endP Q) (slots0 1 ds) := by
  rintro _ Q E ⟨d, rfl, q1, q2⟩
  unfold m_check_time
  simp only [DL.mSeq, DL.mAsg, DL.mAsgR, DL.mAsgM, DL.mrs, DL.ssets, DL.mIf, DL.mRet, DL.mRetN, DL.mrOf, DL.mrLst, DL.mrCat, DL.mrCall, DL.mDrop, DL.mNext, DL.mBreak, DL.mCont, DL.mC, DL.mVar, DL.mOp2, DL.mOp1, DL.mAnd, DL.mOr, DL.mNot, DL.mIfE, DL.mChain, DL.mNil, DL.mCons, DL.mTup, DL.mLst, DL.mCallB, DL.mDict0, DL.mPart, DL.mNoPart, DL.mSl, DL.mCall, DL.mCallK, DL.mCallW, DL.mLenScr, DL.mWell, DL.mT, DL.mTAnd, DL.mTOr, DL.mTNot, DL.mTYes, DL.mgName, DL.mgNil, DL.mgCons, DL.mgTup, DL.miSeq, DL.miRng1, DL.miRng2, DL.mRaise, DL.mApp, DL.mFor, DL.mLc, DL.mrLc, DL.sget, DL.sset, DL.slots0, DL.slotsW, DL.endP, DL.endW, DL.endL, DL.wF, DL.fz_va, DL.fz_own, List.length_cons, List.length_nil, List.map_cons, List.map_nil, List.replicate_succ, List.replicate_zero, Nat.reduceAdd, Nat.reduceSub, Nat.reduceLeDiff, List.cons_append, List.nil_append, Nat.zero_add, Nat.add_zero, Nat.sub_self, Option.some.injEq, PyData.bool.injEq, PyData.int.injEq, PyData.tuple.injEq, PyData.list.injEq, PyData.str.injEq, List.cons.injEq, DL.S.va.injEq, DL.S.own.injEq, DL.S.well.injEq, DL.S.scr.injEq, and_true, true_and, exists_eq_left', exists_eq_left, exists_eq_right, exists_eq_right', exists_and_left, exists_and_right, exists_eq, exists_eq', reduceCtorEq, false_and, and_false, exists_const, if_true, if_false, Bool.false_eq_true, reduceIte, Bool.not_true, Bool.not_false, DL.bIsi, List.any_cons, List.any_nil, Bool.or_false, Bool.or_true, Bool.false_or, Bool.true_or, DL.isK, DL.opAdd_i, DL.opSub_i, DL.opMul_i, DL.opMod_i, DL.opFdiv_i, DL.opPow_i, DL.opLt_i, DL.opLe_i, DL.opGt_i, DL.opGe_i, DL.opEq_int, DL.opNe_int, DL.opEq_str, DL.opNe_str, DL.opIsN_n, DL.opNotN_n, DL.isN, DL.opIsB_b, DL.opNotB_b, DL.opNeg_i, DL.bAbs_i, DL.bMax_i, DL.bMin_i, DL.bInt_i, DL.bGcd_i, DL.bLen_l, DL.bLen_t, DL.opAdd_t, DL.opAdd_l, DL.opIx_l, DL.opIx_t, DL.opSl_t, DL.opSl_l, DL.opRev_t, DL.opRev_l, DL.bList_l, DL.bList_t, DL.bTup_l, DL.bTup_t, DL.atI0, DL.atI1, DL.atI2, DL.atI3]
  refine ⟨d, rfl, _, rfl, _, rfl, ?_⟩
  cases h : isFrac d with
  | false => exact q2 h
  | true => exact q1 h
section
variable {P : Program} {w : World} {K : PySem.W.Frag} {mg : Str → Option Value} {base : Heap} {CN : String → Option Addr}
theorem ok_check_time {f : Addr} {fd : FuncData} (F : Fun K "check_time" "check_time" s_check_time f fd) (g : G K mg CN) (c_is_fraction : CalP P w K mg base CN 3 "is_fraction" D_is_fraction) : FnG P w K mg base 4 f fd ["time"] (spP K CN D_check_time) := by
  obtain ⟨e_InvalidTime, n_InvalidTime, t_InvalidTime⟩ := g.x_InvalidTime
  have sc := sc_check_time
  exact fun_okP (m := m_check_time) F sc (by decide) len_check_time (fun cdv A outer s H E C W hw hr tk =>
    (pds_one (pds_if (pdt_not (pdt_val (pd_call c_is_fraction hr (by decide) tk (pda_cons (dv 0) pda_nil)))) (pds_one (pds_raise rfl tk t_InvalidTime n_InvalidTime)) pds_nil))) rd_check_time
end
end LW
namespace LW
open PySem PySem.Spec PyProof.Rows L2 DL
def m_folded (W : WD) : MS :=
  mSeq (mIf (mTOr (mTNot (mT (mCall D_is_whole W (mCons (mVar 0) (mNil))))) (mT (mOp2 opLt (mVar 0) (mC (.int 1))))) (mRaise "InvalidSide" W) (mNext))
  (mSeq (mDrop (mCall D_check_time W (mCons (mVar 1) (mNil))))
  (mRet (mrOf (mCall D__fold W (mCons (mVar 0) (mCons (mVar 1) (mNil)))))))
def D_folded : PSpec := fun ds Q E => ∃ k f, ds = [k, f] ∧ ((∀ j : Int, k = .int j → j < 1) → E "InvalidSide") ∧ (∀ j : Int, k = .int j → 1 ≤ j → isFrac f = false → E "InvalidTime") ∧
  (∀ j n m : Int, k = .int j → f = .tuple [.int n, .int m] → 1 ≤ j → isFrac f = true → sz 8000 j ∧ sz 8000 m ∧ Q (.va (foldD j n m)))
theorem len_folded : ∀ ds Q E, D_folded ds Q E → ds.length = 2 := by
  rintro _ Q E ⟨k, f, rfl, _⟩
  rfl
theorem rd_folded : ∀ ds Q E, D_folded ds Q E → m_folded (fun c _ => E c) (endP Q) (slots0 2 ds) := by
  rintro _ Q E ⟨k, f, rfl, q1, q2, q3⟩
  unfold m_folded
  simp only [DL.mSeq, DL.mAsg, DL.mAsgR, DL.mAsgM, DL.mrs, DL.ssets, DL.mIf, DL.mRet, DL.mRetN, DL.mrOf, DL.mrLst, DL.mrCat, DL.mrCall, DL.mDrop, DL.mNext, DL.mBreak, DL.mCont, DL.mC, DL.mVar, DL.mOp2, DL.mOp1, DL.mAnd, DL.mOr, DL.mNot, DL.mIfE, DL.mChain, DL.mNil, DL.mCons, DL.mTup, DL.mLst, DL.mCallB, DL.mDict0, DL.mPart, DL.mNoPart, DL.mSl, DL.mCall, DL.mCallK, DL.mCallW, DL.mLenScr, DL.mWell, DL.mT, DL.mTAnd, DL.mTOr, DL.mTNot, DL.mTYes, DL.mgName, DL.mgNil_n, DL.mgCons_c, DL.mgTup_t, DL.mgTup_l, DL.miSeq, DL.miRng1, DL.miRng2, DL.mRaise, DL.mApp, DL.mFor, DL.mLc, DL.mrLc, DL.sget, DL.sset, DL.slots0, DL.slotsW, DL.endP, DL.endW, DL.endL, DL.wF, DL.fz_va, DL.fz_own, List.length_cons, List.length_nil, List.map_cons, List.map_nil, List.replicate_succ, List.replicate_zero, Nat.reduceAdd, Nat.reduceSub, Nat.reduceLeDiff, List.cons_append, List.nil_append, Nat.zero_add, Nat.add_zero, Nat.sub_self, Option.some.injEq, PyData.bool.injEq, PyData.int.injEq, PyData.tuple.injEq, PyData.list.injEq, PyData.str.injEq, List.cons.injEq, DL.S.va.injEq, DL.S.own.injEq, DL.S.well.injEq, DL.S.scr.injEq, and_true, true_and, exists_eq_left', exists_eq_left, exists_eq_right, exists_eq_right', exists_and_left, exists_and_right, exists_eq, exists_eq', reduceCtorEq, false_and, and_false, exists_const, if_true, if_false, Bool.false_eq_true, reduceIte, Bool.not_true, Bool.not_false, DL.bIsi, List.any_cons, List.any_nil, Bool.or_false, Bool.or_true, Bool.false_or, Bool.true_or, DL.isK, DL.opAdd_i, DL.opSub_i, DL.opLt_i, DL.opLe_i, DL.opGt_i, DL.opGe_i, DL.opEq_int, DL.opNe_int, DL.opEq_b, DL.opNe_b, DL.opEq_nn, beq_self_eq_true, DL.opEq_str, DL.opNe_str, DL.opIsN_n, DL.opNotN_n, DL.isN, DL.opIsB_b, DL.opNotB_b, DL.opNeg_i, DL.bAbs_i, DL.bMax_i, DL.bMin_i, DL.bInt_i, DL.bGcd_i, DL.bLen_l, DL.bLen_t, DL.opAdd_t, DL.opAdd_l, DL.opIx_l, DL.opIx_t, DL.opSl_t, DL.opSl_l, DL.opRev_t, DL.opRev_l, DL.bList_l, DL.bList_t, DL.bTup_l, DL.bTup_t, DL.atI0, DL.atI1, DL.atI2, DL.atI3, DL.items_t, DL.items_l]
  refine ⟨k, rfl, _, rfl, _, rfl, ?_⟩
  have go : ∀ j : Int, k = .int j → 1 ≤ j → D_check_time [f] (fun r => (∃ d, fz r = some d) ∧ D__fold [k, f] (fun r => ∃ d, fz r = some d ∧ Q (.va d)) fun c => E c) fun c => E c := by
    rintro j rfl hj
    refine ⟨f, rfl, fun hf => ⟨⟨_, rfl⟩, ?_⟩, fun hf => q2 j rfl hj hf⟩
    obtain ⟨n, m, rfl, hm, -⟩ := frac_inv hf
    obtain ⟨z1, z2, q⟩ := q3 j n m rfl rfl hj hf
    exact ⟨j, n, m, rfl, hj, hm, z1, z2, _, rfl, q⟩
  cases k with
  | int j =>
    simp only [isInt]
    simp only [DL.mSeq, DL.mAsg, DL.mAsgR, DL.mAsgM, DL.mrs, DL.ssets, DL.mIf, DL.mRet, DL.mRetN, DL.mrOf, DL.mrLst, DL.mrCat, DL.mrCall, DL.mDrop, DL.mNext, DL.mBreak, DL.mCont, DL.mC, DL.mVar, DL.mOp2, DL.mOp1, DL.mAnd, DL.mOr, DL.mNot, DL.mIfE, DL.mChain, DL.mNil, DL.mCons, DL.mTup, DL.mLst, DL.mCallB, DL.mDict0, DL.mPart, DL.mNoPart, DL.mSl, DL.mCall, DL.mCallK, DL.mCallW, DL.mLenScr, DL.mWell, DL.mT, DL.mTAnd, DL.mTOr, DL.mTNot, DL.mTYes, DL.mgName, DL.mgNil_n, DL.mgCons_c, DL.mgTup_t, DL.mgTup_l, DL.miSeq, DL.miRng1, DL.miRng2, DL.mRaise, DL.mApp, DL.mFor, DL.mLc, DL.mrLc, DL.sget, DL.sset, DL.slots0, DL.slotsW, DL.endP, DL.endW, DL.endL, DL.wF, DL.fz_va, DL.fz_own, List.length_cons, List.length_nil, List.map_cons, List.map_nil, List.replicate_succ, List.replicate_zero, Nat.reduceAdd, Nat.reduceSub, Nat.reduceLeDiff, List.cons_append, List.nil_append, Nat.zero_add, Nat.add_zero, Nat.sub_self, Option.some.injEq, PyData.bool.injEq, PyData.int.injEq, PyData.tuple.injEq, PyData.list.injEq, PyData.str.injEq, List.cons.injEq, DL.S.va.injEq, DL.S.own.injEq, DL.S.well.injEq, DL.S.scr.injEq, and_true, true_and, exists_eq_left', exists_eq_left, exists_eq_right, exists_eq_right', exists_and_left, exists_and_right, exists_eq, exists_eq', reduceCtorEq, false_and, and_false, exists_const, if_true, if_false, Bool.false_eq_true, reduceIte, Bool.not_true, Bool.not_false, DL.bIsi, List.any_cons, List.any_nil, Bool.or_false, Bool.or_true, Bool.false_or, Bool.true_or, DL.isK, DL.opAdd_i, DL.opSub_i, DL.opLt_i, DL.opLe_i, DL.opGt_i, DL.opGe_i, DL.opEq_int, DL.opNe_int, DL.opEq_b, DL.opNe_b, DL.opEq_nn, beq_self_eq_true, DL.opEq_str, DL.opNe_str, DL.opIsN_n, DL.opNotN_n, DL.isN, DL.opIsB_b, DL.opNotB_b, DL.opNeg_i, DL.bAbs_i, DL.bMax_i, DL.bMin_i, DL.bInt_i, DL.bGcd_i, DL.bLen_l, DL.bLen_t, DL.opAdd_t, DL.opAdd_l, DL.opIx_l, DL.opIx_t, DL.opSl_t, DL.opSl_l, DL.opRev_t, DL.opRev_l, DL.bList_l, DL.bList_t, DL.bTup_l, DL.bTup_t, DL.atI0, DL.atI1, DL.atI2, DL.atI3, DL.items_t, DL.items_l]
    by_cases hj : j < 1
    · rw [if_pos (decide_eq_true hj)]
      exact q1 fun j' e => by cases e; exact hj
    · rw [if_neg (by simpa using hj)]
      exact go j rfl (by omega)
  | _ => exact q1 fun j' e => nomatch e
section
variable {P : Program} {w : World} {K : PySem.W.Frag} {mg : Str → Option Value} {base : Heap} {CN : String → Option Addr}
theorem ok_folded {f : Addr} {fd : FuncData} (F : Fun K "folded" "folded" s_folded f fd) (g : G K mg CN) (c__fold : CalP P w K mg base CN 1 "_fold" D__fold) (c_check_time : CalP P w K mg base CN 4 "check_time" D_check_time) (c_is_whole : CalP P w K mg base CN 1 "is_whole" D_is_whole) : FnG P w K mg base 5 f fd ["side", "number"] (spP K CN D_folded) := by
  obtain ⟨e_InvalidSide, n_InvalidSide, t_InvalidSide⟩ := g.x_InvalidSide
  have sc := sc_folded
  exact fun_okP (m := m_folded) F sc (by decide) len_folded (fun cdv A outer s H E C W hw hr tk =>
    (pds_cons (pds_if (pdt_ofw (pdw_or (pdt_not (pdt_val (pd_call c_is_whole hr (by decide) tk (pda_cons (dv 0) pda_nil)))) (pdw_or1 (pdt_cmp op_lt rl_cmpI (dv 0) pd_int (nomark _))))) (pds_one (pds_raise rfl tk t_InvalidSide n_InvalidSide)) pds_nil)
    (pds_cons (pds_drop (pd_call c_check_time hr (by decide) tk (pda_cons (dv 1) pda_nil)))
    (pds_one (pds_ret (pdr_of (pd_call c__fold hr (by decide) tk (pda_cons (dv 0) (pda_cons (dv 1) pda_nil))))))))) rd_folded
end
end LW
namespace LW
open PySem PySem.Spec PyProof.Rows L2 DL
def m_check_shot (W : WD) : MS :=
  mIf (mTNot (mT (mCall D_is_shot W (mCons (mVar 0) (mCons (mVar 1) (mNil)))))) (mRaise "InvalidShot" W) (mNext)
def D_check_shot : PSpec := fun ds Q E => ∃ t v, ds = [t, v] ∧ (isTab t = false → E "InvalidTable") ∧ (isTab t = true → isShot t v = false → E "InvalidShot") ∧ (isTab t = true → isShot t v = true → Q (.va .none))
theorem len_check_shot : ∀ ds Q E, D_check_shot ds Q E → ds.length = 2 := by
  rintro _ Q E ⟨t, v, rfl, _⟩
  rfl
theorem rd_check_shot : ∀ ds Q E, D_check_shot ds Q E → m_check_shot (fun c _ => E c) (endP Q) (slots0 2 ds) := by
  rintro _ Q E ⟨t, v, rfl, q1, q2, q3⟩
  unfold m_check_shot
  simp only [DL.mSeq, DL.mAsg, DL.mAsgR, DL.mAsgM, DL.mrs, DL.ssets, DL.mIf, DL.mRet, DL.mRetN, DL.mrOf, DL.mrLst, DL.mrCat, DL.mrCall, DL.mDrop, DL.mNext, DL.mBreak, DL.mCont, DL.mC, DL.mVar, DL.mOp2, DL.mOp1, DL.mAnd, DL.mOr, DL.mNot, DL.mIfE, DL.mChain, DL.mNil, DL.mCons, DL.mTup, DL.mLst, DL.mCallB, DL.mDict0, DL.mPart, DL.mNoPart, DL.mSl, DL.mCall, DL.mCallK, DL.mCallW, DL.mLenScr, DL.mWell, DL.mT, DL.mTAnd, DL.mTOr, DL.mTNot, DL.mTYes, DL.mgName, DL.mgNil, DL.mgCons, DL.mgTup, DL.miSeq, DL.miRng1, DL.miRng2, DL.mRaise, DL.mApp, DL.mFor, DL.mLc, DL.mrLc, DL.sget, DL.sset, DL.slots0, DL.slotsW, DL.endP, DL.endW, DL.endL, DL.wF, DL.fz_va, DL.fz_own, List.length_cons, List.length_nil, List.map_cons, List.map_nil, List.replicate_succ, List.replicate_zero, Nat.reduceAdd, Nat.reduceSub, Nat.reduceLeDiff, List.cons_append, List.nil_append, Nat.zero_add, Nat.add_zero, Nat.sub_self, Option.some.injEq, PyData.bool.injEq, PyData.int.injEq, PyData.tuple.injEq, PyData.list.injEq, PyData.str.injEq, List.cons.injEq, DL.S.va.injEq, DL.S.own.injEq, DL.S.well.injEq, DL.S.scr.injEq, and_true, true_and, exists_eq_left', exists_eq_left, exists_eq_right, exists_eq_right', exists_and_left, exists_and_right, exists_eq, exists_eq', reduceCtorEq, false_and, and_false, exists_const, if_true, if_false, Bool.false_eq_true, reduceIte, Bool.not_true, Bool.not_false, DL.bIsi, List.any_cons, List.any_nil, Bool.or_false, Bool.or_true, Bool.false_or, Bool.true_or, DL.isK, DL.opAdd_i, DL.opSub_i, DL.opMul_i, DL.opMod_i, DL.opFdiv_i, DL.opPow_i, DL.opLt_i, DL.opLe_i, DL.opGt_i, DL.opGe_i, DL.opEq_int, DL.opNe_int, DL.opEq_str, DL.opNe_str, DL.opIsN_n, DL.opNotN_n, DL.isN, DL.opIsB_b, DL.opNotB_b, DL.opNeg_i, DL.bAbs_i, DL.bMax_i, DL.bMin_i, DL.bInt_i, DL.bGcd_i, DL.bLen_l, DL.bLen_t, DL.opAdd_t, DL.opAdd_l, DL.opIx_l, DL.opIx_t, DL.opSl_t, DL.opSl_l, DL.opRev_t, DL.opRev_l, DL.bList_l, DL.bList_t, DL.bTup_l, DL.bTup_t, DL.atI0, DL.atI1, DL.atI2, DL.atI3]
  refine ⟨t, v, rfl, q1, fun ht => ⟨_, rfl, _, rfl, ?_⟩⟩
  cases h : isShot t v with
  | false => exact q2 ht h
  | true => exact q3 ht h
section
variable {P : Program} {w : World} {K : PySem.W.Frag} {mg : Str → Option Value} {base : Heap} {CN : String → Option Addr}
theorem ok_check_shot {f : Addr} {fd : FuncData} (F : Fun K "check_shot" "check_shot" s_check_shot f fd) (g : G K mg CN) (c_is_shot : CalP P w K mg base CN 5 "is_shot" D_is_shot) : FnG P w K mg base 6 f fd ["table", "shot"] (spP K CN D_check_shot) := by
  obtain ⟨e_InvalidShot, n_InvalidShot, t_InvalidShot⟩ := g.x_InvalidShot
  have sc := sc_check_shot
  exact fun_okP (m := m_check_shot) F sc (by decide) len_check_shot (fun cdv A outer s H E C W hw hr tk =>
    (pds_one (pds_if (pdt_not (pdt_val (pd_call c_is_shot hr (by decide) tk (pda_cons (dv 0) (pda_cons (dv 1) pda_nil))))) (pds_one (pds_raise rfl tk t_InvalidShot n_InvalidShot)) pds_nil))) rd_check_shot
end
end LW
namespace LW
open PySem PySem.Spec PyProof.Rows L2 DL
def m__check_all (W : WD) : MS :=
  mSeq (mDrop (mCall D_check_shot W (mCons (mVar 0) (mCons (mVar 1) (mNil)))))
  (mDrop (mCall D_check_time W (mCons (mVar 2) (mNil))))
def D__check_all : PSpec := fun ds Q E => ∃ t v f, ds = [t, v, f] ∧ (isTab t = false → E "InvalidTable") ∧ (isTab t = true → isShot t v = false → E "InvalidShot") ∧ (isTab t = true → isShot t v = true → isFrac f = false → E "InvalidTime") ∧ (isTab t = true → isShot t v = true → isFrac f = true → Q (.va .none))
theorem len__check_all : ∀ ds Q E, D__check_all ds Q E → ds.length = 3 := by
  rintro _ Q E ⟨t, v, f, rfl, _⟩
  rfl
theorem rd__check_all : ∀ ds Q E, D__check_all ds Q E → m__check_all (fun c _ => E c) (endP Q) (slots0 3 ds) := by
  rintro _ Q E ⟨t, v, f, rfl, q1, q2, q3, q4⟩
  unfold m__check_all
  simp only [DL.mSeq, DL.mAsg, DL.mAsgR, DL.mAsgM, DL.mrs, DL.ssets, DL.mIf, DL.mRet, DL.mRetN, DL.mrOf, DL.mrLst, DL.mrCat, DL.mrCall, DL.mDrop, DL.mNext, DL.mBreak, DL.mCont, DL.mC, DL.mVar, DL.mOp2, DL.mOp1, DL.mAnd, DL.mOr, DL.mNot, DL.mIfE, DL.mChain, DL.mNil, DL.mCons, DL.mTup, DL.mLst, DL.mCallB, DL.mDict0, DL.mPart, DL.mNoPart, DL.mSl, DL.mCall, DL.mCallK, DL.mCallW, DL.mLenScr, DL.mWell, DL.mT, DL.mTAnd, DL.mTOr, DL.mTNot, DL.mTYes, DL.mgName, DL.mgNil, DL.mgCons, DL.mgTup, DL.miSeq, DL.miRng1, DL.miRng2, DL.mRaise, DL.mApp, DL.mFor, DL.mLc, DL.mrLc, DL.sget, DL.sset, DL.slots0, DL.slotsW, DL.endP, DL.endW, DL.endL, DL.wF, DL.fz_va, DL.fz_own, List.length_cons, List.length_nil, List.map_cons, List.map_nil, List.replicate_succ, List.replicate_zero, Nat.reduceAdd, Nat.reduceSub, Nat.reduceLeDiff, List.cons_append, List.nil_append, Nat.zero_add, Nat.add_zero, Nat.sub_self, Option.some.injEq, PyData.bool.injEq, PyData.int.injEq, PyData.tuple.injEq, PyData.list.injEq, PyData.str.injEq, List.cons.injEq, DL.S.va.injEq, DL.S.own.injEq, DL.S.well.injEq, DL.S.scr.injEq, and_true, true_and, exists_eq_left', exists_eq_left, exists_eq_right, exists_eq_right', exists_and_left, exists_and_right, exists_eq, exists_eq', reduceCtorEq, false_and, and_false, exists_const, if_true, if_false, Bool.false_eq_true, reduceIte, Bool.not_true, Bool.not_false, DL.bIsi, List.any_cons, List.any_nil, Bool.or_false, Bool.or_true, Bool.false_or, Bool.true_or, DL.isK, DL.opAdd_i, DL.opSub_i, DL.opMul_i, DL.opMod_i, DL.opFdiv_i, DL.opPow_i, DL.opLt_i, DL.opLe_i, DL.opGt_i, DL.opGe_i, DL.opEq_int, DL.opNe_int, DL.opEq_str, DL.opNe_str, DL.opIsN_n, DL.opNotN_n, DL.isN, DL.opIsB_b, DL.opNotB_b, DL.opNeg_i, DL.bAbs_i, DL.bMax_i, DL.bMin_i, DL.bInt_i, DL.bGcd_i, DL.bLen_l, DL.bLen_t, DL.opAdd_t, DL.opAdd_l, DL.opIx_l, DL.opIx_t, DL.opSl_t, DL.opSl_l, DL.opRev_t, DL.opRev_l, DL.bList_l, DL.bList_t, DL.bTup_l, DL.bTup_t, DL.atI0, DL.atI1, DL.atI2, DL.atI3]
  exact ⟨t, v, rfl, q1, q2, fun h1 h2 => ⟨⟨_, rfl⟩, f, rfl, fun h3 => ⟨⟨_, rfl⟩, q4 h1 h2 h3⟩, fun h3 => q3 h1 h2 h3⟩⟩
section
variable {P : Program} {w : World} {K : PySem.W.Frag} {mg : Str → Option Value} {base : Heap} {CN : String → Option Addr}
theorem ok__check_all {f : Addr} {fd : FuncData} (F : Fun K "_check_all" "_check_all" s__check_all f fd) (g : G K mg CN) (c_check_shot : CalP P w K mg base CN 6 "check_shot" D_check_shot) (c_check_time : CalP P w K mg base CN 4 "check_time" D_check_time) : FnG P w K mg base 7 f fd ["table", "shot", "time"] (spP K CN D__check_all) := by
  have sc := sc__check_all
  exact fun_okP (m := m__check_all) F sc (by decide) len__check_all (fun cdv A outer s H E C W hw hr tk =>
    (pds_cons (pds_drop (pd_call c_check_shot hr (by decide) tk (pda_cons (dv 0) (pda_cons (dv 1) pda_nil))))
    (pds_one (pds_drop (pd_call c_check_time hr (by decide) tk (pda_cons (dv 2) pda_nil)))))) rd__check_all
end
end LW
namespace LW
open PySem PySem.Spec PyProof.Rows L2 DL
def m__place (W : WD) : MS :=
  mSeq (mAsg (mVar 2) (mgTup 2 (mgCons (mgName 3) (mgCons (mgName 4) (mgNil)))))
  (mRet (mrOf (mCallB bTup (mCons (mLc (miSeq (mCall D_lines_of W (mCons (mVar 0) (mCons (mVar 1) (mNil))))) (mgTup 3 (mgCons (mgName 5) (mgCons (mgName 6) (mgCons (mgName 7) (mgNil))))) (mTYes) (mCall D__fold wF (mCons (mVar 5) (mCons (mCall D_fraction_of wF (mCons (mOp2 opAdd (mOp2 opMul (mVar 6) (mVar 4)) (mOp2 opMul (mVar 7) (mVar 3))) (mCons (mVar 4) (mNil)))) (mNil)))) [5, 6, 7]) mNil))))
/-- a number behind n / m: folded, in lowest terms -/
def placeL (s a v n m : Int) : PyData := foldD s ((a * m + v * n) / (Nat.gcd (a * m + v * n).natAbs m.natAbs : Nat)) (m / (Nat.gcd (a * m + v * n).natAbs m.natAbs : Nat))
def placeN (s a v n m : Int) : PyData := placeL s (lineA v a) (lineV v) n m
def lineIn : PyData → Option PyData
  | .tuple [.int s, .int a, .int v] => some (.tuple [.int s, .int a, .int v])
  | _ => none
def placeK (n m : Int) : PyData → Option PyData
  | .tuple [.int s, .int a, .int v] => some (placeL s a v n m)
  | _ => none
def D__place : PSpec := fun ds Q _ => ∃ a b x y p q n m, ds = [.tuple [.int a, .int b], .tuple [.int x, .int y, .int p, .int q], .tuple [.int n, .int m]] ∧ 1 ≤ a ∧ 1 ≤ b ∧ 1 ≤ m ∧ sz 1000 a ∧ sz 1000 b ∧ sz 1000 x ∧ sz 1000 y ∧ sz 1000 p ∧ sz 1000 q ∧ sz 1000 n ∧ sz 1000 m ∧ Q (.va (.tuple [placeN a x p n m, placeN b y q n m]))
theorem len__place : ∀ ds Q E, D__place ds Q E → ds.length = 3 := by
  rintro _ Q E ⟨a, b, x, y, p, q, n, m, rfl, _⟩
  rfl
theorem rd__place : ∀ ds Q E, D__place ds Q E → m__place (fun c _ => E c) (endP Q) (slots0 8 ds) := by
  rintro _ Q E ⟨a, b, x, y, p, q, n, m, rfl, ha, hb, hm, za, zb, zx, zy, zp, zq, zn, zm, hQ⟩
  unfold m__place
  simp only [DL.mSeq, DL.mAsg, DL.mAsgR, DL.mAsgM, DL.mrs, DL.ssets, DL.mIf, DL.mRet, DL.mRetN, DL.mrOf, DL.mrLst, DL.mrCat, DL.mrCall, DL.mDrop, DL.mNext, DL.mBreak, DL.mCont, DL.mC, DL.mVar, DL.mOp2, DL.mOp1, DL.mAnd, DL.mOr, DL.mNot, DL.mIfE, DL.mChain, DL.mNil, DL.mCons, DL.mTup, DL.mLst, DL.mCallB, DL.mDict0, DL.mPart, DL.mNoPart, DL.mSl, DL.mCall, DL.mCallK, DL.mCallW, DL.mLenScr, DL.mWell, DL.mT, DL.mTAnd, DL.mTOr, DL.mTNot, DL.mTYes, DL.mgName, DL.mgNil_n, DL.mgCons_c, DL.mgTup_t, DL.mgTup_l, DL.miSeq, DL.miRng1, DL.miRng2, DL.mRaise, DL.mApp, DL.mFor, DL.mLc, DL.mrLc, DL.sget, DL.sset, DL.slots0, DL.slotsW, DL.endP, DL.endW, DL.endL, DL.wF, DL.fz_va, DL.fz_own, List.length_cons, List.length_nil, List.map_cons, List.map_nil, List.replicate_succ, List.replicate_zero, Nat.reduceAdd, Nat.reduceSub, Nat.reduceLeDiff, List.cons_append, List.nil_append, Nat.zero_add, Nat.add_zero, Nat.sub_self, Option.some.injEq, PyData.bool.injEq, PyData.int.injEq, PyData.tuple.injEq, PyData.list.injEq, PyData.str.injEq, List.cons.injEq, DL.S.va.injEq, DL.S.own.injEq, DL.S.well.injEq, DL.S.scr.injEq, and_true, true_and, exists_eq_left', exists_eq_left, exists_eq_right, exists_eq_right', exists_and_left, exists_and_right, exists_eq, exists_eq', reduceCtorEq, false_and, and_false, exists_const, if_true, if_false, Bool.false_eq_true, reduceIte, Bool.not_true, Bool.not_false, DL.bIsi, List.any_cons, List.any_nil, Bool.or_false, Bool.or_true, Bool.false_or, Bool.true_or, DL.isK, DL.opAdd_i, DL.opSub_i, DL.opLt_i, DL.opLe_i, DL.opGt_i, DL.opGe_i, DL.opEq_int, DL.opNe_int, DL.opEq_b, DL.opNe_b, DL.opEq_nn, beq_self_eq_true, DL.opEq_str, DL.opNe_str, DL.opIsN_n, DL.opNotN_n, DL.isN, DL.opIsB_b, DL.opNotB_b, DL.opNeg_i, DL.bAbs_i, DL.bMax_i, DL.bMin_i, DL.bInt_i, DL.bGcd_i, DL.bLen_l, DL.bLen_t, DL.opAdd_t, DL.opAdd_l, DL.opIx_l, DL.opIx_t, DL.opSl_t, DL.opSl_l, DL.opRev_t, DL.opRev_l, DL.bList_l, DL.bList_t, DL.bTup_l, DL.bTup_t, DL.atI0, DL.atI1, DL.atI2, DL.atI3, DL.items_t, DL.items_l]
  refine ⟨a, b, x, y, p, q, rfl, _, rfl, ?_⟩
  refine ⟨_, rfl, rfl, ?_⟩
  have big : ∀ {u : Int}, sz 1000 u → sz 8000 u := fun h => sz_mono h (by decide)
  have le : ∀ {t : Int}, sz 8000 (m / (Nat.gcd t.natAbs m.natAbs : Nat)) := fun {t} => sz_div (big zm) (gcd_pos hm)
  have one : ∀ s u v : Int, 1 ≤ s → sz 1000 s → sz 1000 u → sz 1000 v → ∀ (x5 x6 x7 : S) (Y : PyData → DSt → Prop), (∀ x5 x6 x7, Y (placeL s u v n m) [.va (.tuple [.int a, .int b]), .va (.tuple [.int x, .int y, .int p, .int q]), .va (.tuple [.int n, .int m]), .va (.int n), .va (.int m), x5, x6, x7]) →
      mgTup 3 (mgCons (mgName 5) (mgCons (mgName 6) (mgCons (mgName 7) mgNil))) (.tuple [.int s, .int u, .int v]) [.va (.tuple [.int a, .int b]), .va (.tuple [.int x, .int y, .int p, .int q]), .va (.tuple [.int n, .int m]), .va (.int n), .va (.int m), x5, x6, x7] fun s1 =>
        mTYes s1 fun b s2 => if b = true then mCall D__fold wF (mCons (mVar 5) (mCons (mCall D_fraction_of wF (mCons (mOp2 opAdd (mOp2 opMul (mVar 6) (mVar 4)) (mOp2 opMul (mVar 7) (mVar 3))) (mCons (mVar 4) mNil))) mNil)) s2 Y else False := by
    intro s u v hs zs zu zv x5 x6 x7 Y hY
    simp only [DL.mSeq, DL.mAsg, DL.mAsgR, DL.mAsgM, DL.mrs, DL.ssets, DL.mIf, DL.mRet, DL.mRetN, DL.mrOf, DL.mrLst, DL.mrCat, DL.mrCall, DL.mDrop, DL.mNext, DL.mBreak, DL.mCont, DL.mC, DL.mVar, DL.mOp2, DL.mOp1, DL.mAnd, DL.mOr, DL.mNot, DL.mIfE, DL.mChain, DL.mNil, DL.mCons, DL.mTup, DL.mLst, DL.mCallB, DL.mDict0, DL.mPart, DL.mNoPart, DL.mSl, DL.mCall, DL.mCallK, DL.mCallW, DL.mLenScr, DL.mWell, DL.mT, DL.mTAnd, DL.mTOr, DL.mTNot, DL.mTYes, DL.mgName, DL.mgNil_n, DL.mgCons_c, DL.mgTup_t, DL.mgTup_l, DL.miSeq, DL.miRng1, DL.miRng2, DL.mRaise, DL.mApp, DL.mFor, DL.mLc, DL.mrLc, DL.sget, DL.sset, DL.slots0, DL.slotsW, DL.endP, DL.endW, DL.endL, DL.wF, DL.fz_va, DL.fz_own, List.length_cons, List.length_nil, List.map_cons, List.map_nil, List.replicate_succ, List.replicate_zero, Nat.reduceAdd, Nat.reduceSub, Nat.reduceLeDiff, List.cons_append, List.nil_append, Nat.zero_add, Nat.add_zero, Nat.sub_self, Option.some.injEq, PyData.bool.injEq, PyData.int.injEq, PyData.tuple.injEq, PyData.list.injEq, PyData.str.injEq, List.cons.injEq, DL.S.va.injEq, DL.S.own.injEq, DL.S.well.injEq, DL.S.scr.injEq, and_true, true_and, exists_eq_left', exists_eq_left, exists_eq_right, exists_eq_right', exists_and_left, exists_and_right, exists_eq, exists_eq', reduceCtorEq, false_and, and_false, exists_const, if_true, if_false, Bool.false_eq_true, reduceIte, Bool.not_true, Bool.not_false, DL.bIsi, List.any_cons, List.any_nil, Bool.or_false, Bool.or_true, Bool.false_or, Bool.true_or, DL.isK, DL.opAdd_i, DL.opSub_i, DL.opLt_i, DL.opLe_i, DL.opGt_i, DL.opGe_i, DL.opEq_int, DL.opNe_int, DL.opEq_b, DL.opNe_b, DL.opEq_nn, beq_self_eq_true, DL.opEq_str, DL.opNe_str, DL.opIsN_n, DL.opNotN_n, DL.isN, DL.opIsB_b, DL.opNotB_b, DL.opNeg_i, DL.bAbs_i, DL.bMax_i, DL.bMin_i, DL.bInt_i, DL.bGcd_i, DL.bLen_l, DL.bLen_t, DL.opAdd_t, DL.opAdd_l, DL.opIx_l, DL.opIx_t, DL.opSl_t, DL.opSl_l, DL.opRev_t, DL.opRev_l, DL.bList_l, DL.bList_t, DL.bTup_l, DL.bTup_t, DL.atI0, DL.atI1, DL.atI2, DL.atI3, DL.items_t, DL.items_l]
    exact ⟨_, opMul_ok zu zm (by decide), _, opMul_ok zv zn (by decide), _, rfl, _, _, rfl, hm, big zm, _, rfl, s, _, _, rfl, hs, div_gcd_pos hm, big zs, le, _, rfl, hY _ _ _⟩
  refine lcL_run (fun s => ∃ x5 x6 x7, s = [.va (.tuple [.int a, .int b]), .va (.tuple [.int x, .int y, .int p, .int q]), .va (.tuple [.int n, .int m]), .va (.int n), .va (.int m), x5, x6, x7]) (placeK n m) _ ?_ _ [] ⟨_, _, _, rfl⟩ (by simp) ?_
  · rintro d hd s ⟨x5, x6, x7, rfl⟩ Y N hY hN
    simp only [List.mem_cons, List.not_mem_nil, or_false] at hd
    simp only [swipe, sset]
    rcases hd with rfl | rfl
    · rw [lineD_eq] at hY ⊢
      exact one _ _ _ ha za (sz_lineA zx) (sz_lineV zp) _ _ _ Y fun _ _ _ => hY _ _ rfl ⟨_, _, _, rfl⟩
    · rw [lineD_eq] at hY ⊢
      exact one _ _ _ hb zb (sz_lineA zy) (sz_lineV zq) _ _ _ Y fun _ _ _ => hY _ _ rfl ⟨_, _, _, rfl⟩
  · rintro s ⟨x5, x6, x7, rfl⟩
    rw [lineD_eq, lineD_eq]
    exact hQ
section
variable {P : Program} {w : World} {K : PySem.W.Frag} {mg : Str → Option Value} {base : Heap} {CN : String → Option Addr}
theorem ok__place {f : Addr} {fd : FuncData} (F : Fun K "_place" "_place" s__place f fd) (g : G K mg CN) (c__fold : CalP P w K mg base CN 1 "_fold" D__fold) (c_fraction_of : CalP P w K mg base CN 1 "fraction_of" D_fraction_of) (c_lines_of : CalP P w K mg base CN 2 "lines_of" D_lines_of) : FnG P w K mg base 3 f fd ["table", "shot", "time"] (spP K CN D__place) := by
  have sc := sc__place
  exact fun_okP (m := m__place) F sc (by decide) len__place (fun cdv A outer s H E C W hw hr tk =>
    (pds_cons (pds_asg (ps_asg (dv 2) (pdg_tup rfl (gcons (dg 3 sc.nd) (gcons (dg 4 sc.nd) pdgs_nil)))))
    (pds_one (pds_ret (pdr_of (pd_tupOf g.b_tuple (pd_lc (pe_lc (own := [("side", 5), ("start", 6), ("speed", 7)]) rfl sc.nd (pdi_seq (pd_call c_lines_of hr (by decide) tk (pda_cons (dv 0) (pda_cons (dv 1) pda_nil)))) (blkOk_by (N := ["table", "shot", "time", "top", "bottom", "side", "start", "speed"]) (sc := (defScope s__place)) (by decide +kernel)) (fun _ _ _ _ _ => (pdgv_tup rfl (gvcons (dgv 5 (vs := [5, 6, 7]) sc.nd) (gvcons (dgv 6 (vs := [5, 6, 7]) sc.nd) (gvcons (dgv 7 (vs := [5, 6, 7]) sc.nd) pdgsv_nil))))) (fun _ _ _ _ _ => pdts_nil) (fun _ _ _ _ _ => (pd_call c__fold hr (by decide) takesF (pda_cons (dv 5) (pda_cons (pd_call c_fraction_of hr (by decide) takesF (pda_cons (pd_op or_add rl_add (pd_op or_mul rl_mul (dv 6) (dv 4)) (pd_op or_mul rl_mul (dv 7) (dv 3))) (pda_cons (dv 4) pda_nil))) pda_nil)))))))))))) rd__place
end
end LW
namespace LW
open PySem PySem.Spec PyProof.Rows L2 DL
def m_place_at (W : WD) : MS :=
  mSeq (mDrop (mCall D__check_all W (mCons (mVar 0) (mCons (mVar 1) (mCons (mVar 2) (mNil))))))
  (mRet (mrOf (mCall D__place W (mCons (mVar 0) (mCons (mVar 1) (mCons (mVar 2) (mNil)))))))
def placeD : PyData → PyData → PyData → PyData
  | .tuple [.int a, .int b], .tuple [.int x, .int y, .int p, .int q], .tuple [.int n, .int m] => .tuple [placeN a x p n m, placeN b y q n m]
  | _, _, _ => .none
def D_place_at : PSpec := fun ds Q E => ∃ t v f, ds = [t, v, f] ∧ (isTab t = false → E "InvalidTable") ∧ (isTab t = true → isShot t v = false → E "InvalidShot") ∧ (isTab t = true → isShot t v = true → isFrac f = false → E "InvalidTime") ∧ (isTab t = true → isShot t v = true → isFrac f = true → szD t ∧ szD v ∧ szD f ∧ Q (.va (placeD t v f)))
theorem len_place_at : ∀ ds Q E, D_place_at ds Q E → ds.length = 3 := by
  rintro _ Q E ⟨t, v, f, rfl, _⟩
  rfl
theorem rd_place_at : ∀ ds Q E, D_place_at ds Q E → m_place_at (fun c _ => E c) (endP Q) (slots0 3 ds) := by
  rintro _ Q E ⟨t, v, f, rfl, q1, q2, q3, q4⟩
  unfold m_place_at
  simp only [DL.mSeq, DL.mAsg, DL.mAsgR, DL.mAsgM, DL.mrs, DL.ssets, DL.mIf, DL.mRet, DL.mRetN, DL.mrOf, DL.mrLst, DL.mrCat, DL.mrCall, DL.mDrop, DL.mNext, DL.mBreak, DL.mCont, DL.mC, DL.mVar, DL.mOp2, DL.mOp1, DL.mAnd, DL.mOr, DL.mNot, DL.mIfE, DL.mChain, DL.mNil, DL.mCons, DL.mTup, DL.mLst, DL.mCallB, DL.mDict0, DL.mPart, DL.mNoPart, DL.mSl, DL.mCall, DL.mCallK, DL.mCallW, DL.mLenScr, DL.mWell, DL.mT, DL.mTAnd, DL.mTOr, DL.mTNot, DL.mTYes, DL.mgName, DL.mgNil_n, DL.mgCons_c, DL.mgTup_t, DL.mgTup_l, DL.miSeq, DL.miRng1, DL.miRng2, DL.mRaise, DL.mApp, DL.mFor, DL.mLc, DL.mrLc, DL.sget, DL.sset, DL.slots0, DL.slotsW, DL.endP, DL.endW, DL.endL, DL.wF, DL.fz_va, DL.fz_own, List.length_cons, List.length_nil, List.map_cons, List.map_nil, List.replicate_succ, List.replicate_zero, Nat.reduceAdd, Nat.reduceSub, Nat.reduceLeDiff, List.cons_append, List.nil_append, Nat.zero_add, Nat.add_zero, Nat.sub_self, Option.some.injEq, PyData.bool.injEq, PyData.int.injEq, PyData.tuple.injEq, PyData.list.injEq, PyData.str.injEq, List.cons.injEq, DL.S.va.injEq, DL.S.own.injEq, DL.S.well.injEq, DL.S.scr.injEq, and_true, true_and, exists_eq_left', exists_eq_left, exists_eq_right, exists_eq_right', exists_and_left, exists_and_right, exists_eq, exists_eq', reduceCtorEq, false_and, and_false, exists_const, if_true, if_false, Bool.false_eq_true, reduceIte, Bool.not_true, Bool.not_false, DL.bIsi, List.any_cons, List.any_nil, Bool.or_false, Bool.or_true, Bool.false_or, Bool.true_or, DL.isK, DL.opAdd_i, DL.opSub_i, DL.opLt_i, DL.opLe_i, DL.opGt_i, DL.opGe_i, DL.opEq_int, DL.opNe_int, DL.opEq_b, DL.opNe_b, DL.opEq_nn, beq_self_eq_true, DL.opEq_str, DL.opNe_str, DL.opIsN_n, DL.opNotN_n, DL.isN, DL.opIsB_b, DL.opNotB_b, DL.opNeg_i, DL.bAbs_i, DL.bMax_i, DL.bMin_i, DL.bInt_i, DL.bGcd_i, DL.bLen_l, DL.bLen_t, DL.opAdd_t, DL.opAdd_l, DL.opIx_l, DL.opIx_t, DL.opSl_t, DL.opSl_l, DL.opRev_t, DL.opRev_l, DL.bList_l, DL.bList_t, DL.bTup_l, DL.bTup_t, DL.atI0, DL.atI1, DL.atI2, DL.atI3, DL.items_t, DL.items_l]
  refine ⟨t, v, f, rfl, q1, q2, q3, fun h1 h2 h3 => ⟨⟨_, rfl⟩, ?_⟩⟩
  obtain ⟨z1, z2, z3, q⟩ := q4 h1 h2 h3
  obtain ⟨a, b, x, y, p, r, rfl, rfl, -⟩ := shot_inv h2
  obtain ⟨n, m, rfl, hm, -⟩ := frac_inv h3
  simp only [isTab, Bool.and_eq_true, decide_eq_true_eq] at h1
  exact ⟨a, b, x, y, p, r, n, m, rfl, h1.1, h1.2, hm, z1.1, z1.2, z2.1, z2.2.1, z2.2.2.1, z2.2.2.2, z3.1, z3.2, _, rfl, q⟩
section
variable {P : Program} {w : World} {K : PySem.W.Frag} {mg : Str → Option Value} {base : Heap} {CN : String → Option Addr}
theorem ok_place_at {f : Addr} {fd : FuncData} (F : Fun K "place_at" "place_at" s_place_at f fd) (g : G K mg CN) (c__check_all : CalP P w K mg base CN 7 "_check_all" D__check_all) (c__place : CalP P w K mg base CN 3 "_place" D__place) : FnG P w K mg base 8 f fd ["table", "shot", "time"] (spP K CN D_place_at) := by
  have sc := sc_place_at
  exact fun_okP (m := m_place_at) F sc (by decide) len_place_at (fun cdv A outer s H E C W hw hr tk =>
    (pds_cons (pds_drop (pd_call c__check_all hr (by decide) tk (pda_cons (dv 0) (pda_cons (dv 1) (pda_cons (dv 2) pda_nil)))))
    (pds_one (pds_ret (pdr_of (pd_call c__place hr (by decide) tk (pda_cons (dv 0) (pda_cons (dv 1) (pda_cons (dv 2) pda_nil))))))))) rd_place_at
end
end LW
namespace LW
open PySem PySem.Spec PyProof.Rows L2 DL
def m__line_way (W : WD) : MS :=
  mSeq (mAsg (mVar 0) (mgTup 3 (mgCons (mgName 2) (mgCons (mgName 3) (mgCons (mgName 4) (mgNil))))))
  (mSeq (mAsg (mVar 1) (mgTup 2 (mgCons (mgName 5) (mgCons (mgName 6) (mgNil)))))
  (mSeq (mAsg (mOp2 opFdiv (mOp2 opAdd (mOp2 opMul (mVar 3) (mVar 6)) (mOp2 opMul (mVar 4) (mVar 5))) (mOp2 opMul (mVar 2) (mVar 6))) (mgName 7))
  (mSeq (mIf (mT (mOp2 opEq (mOp2 opMod (mVar 7) (mC (.int 2))) (mC (.int 0)))) (mRet (mrOf (mVar 4))) (mNext))
  (mRet (mrOf (mOp1 opNeg (mVar 4)))))))
def wayL (s a v n m : Int) : Int := if (a * m + v * n) / (s * m) % 2 = 0 then v else -v
def D__line_way : PSpec := fun ds Q _ => ∃ s a v n m, ds = [.tuple [.int s, .int a, .int v], .tuple [.int n, .int m]] ∧ 1 ≤ s ∧ 1 ≤ m ∧ sz 1000 s ∧ sz 1000 a ∧ sz 1000 v ∧ sz 1000 n ∧ sz 1000 m ∧ Q (.va (.int (wayL s a v n m)))
theorem len__line_way : ∀ ds Q E, D__line_way ds Q E → ds.length = 2 := by
  rintro _ Q E ⟨s, a, v, n, m, rfl, _⟩
  rfl
theorem rd__line_way : ∀ ds Q E, D__line_way ds Q E → m__line_way (fun c _ => E c) (endP Q) (slots0 8 ds) := by
  rintro _ Q E ⟨s, a, v, n, m, rfl, hs, hm, zs, za, zv, zn, zm, q⟩
  unfold m__line_way
  simp only [DL.mSeq, DL.mAsg, DL.mAsgR, DL.mAsgM, DL.mrs, DL.ssets, DL.mIf, DL.mRet, DL.mRetN, DL.mrOf, DL.mrLst, DL.mrCat, DL.mrCall, DL.mDrop, DL.mNext, DL.mBreak, DL.mCont, DL.mC, DL.mVar, DL.mOp2, DL.mOp1, DL.mAnd, DL.mOr, DL.mNot, DL.mIfE, DL.mChain, DL.mNil, DL.mCons, DL.mTup, DL.mLst, DL.mCallB, DL.mDict0, DL.mPart, DL.mNoPart, DL.mSl, DL.mCall, DL.mCallK, DL.mCallW, DL.mLenScr, DL.mWell, DL.mT, DL.mTAnd, DL.mTOr, DL.mTNot, DL.mTYes, DL.mgName, DL.mgNil_n, DL.mgCons_c, DL.mgTup_t, DL.mgTup_l, DL.miSeq, DL.miRng1, DL.miRng2, DL.mRaise, DL.mApp, DL.mFor, DL.mLc, DL.mrLc, DL.sget, DL.sset, DL.slots0, DL.slotsW, DL.endP, DL.endW, DL.endL, DL.wF, DL.fz_va, DL.fz_own, List.length_cons, List.length_nil, List.map_cons, List.map_nil, List.replicate_succ, List.replicate_zero, Nat.reduceAdd, Nat.reduceSub, Nat.reduceLeDiff, List.cons_append, List.nil_append, Nat.zero_add, Nat.add_zero, Nat.sub_self, Option.some.injEq, PyData.bool.injEq, PyData.int.injEq, PyData.tuple.injEq, PyData.list.injEq, PyData.str.injEq, List.cons.injEq, DL.S.va.injEq, DL.S.own.injEq, DL.S.well.injEq, DL.S.scr.injEq, and_true, true_and, exists_eq_left', exists_eq_left, exists_eq_right, exists_eq_right', exists_and_left, exists_and_right, exists_eq, exists_eq', reduceCtorEq, false_and, and_false, exists_const, if_true, if_false, Bool.false_eq_true, reduceIte, Bool.not_true, Bool.not_false, DL.bIsi, List.any_cons, List.any_nil, Bool.or_false, Bool.or_true, Bool.false_or, Bool.true_or, DL.isK, DL.opAdd_i, DL.opSub_i, DL.opLt_i, DL.opLe_i, DL.opGt_i, DL.opGe_i, DL.opEq_int, DL.opNe_int, DL.opEq_b, DL.opNe_b, DL.opEq_nn, beq_self_eq_true, DL.opEq_str, DL.opNe_str, DL.opIsN_n, DL.opNotN_n, DL.isN, DL.opIsB_b, DL.opNotB_b, DL.opNeg_i, DL.bAbs_i, DL.bMax_i, DL.bMin_i, DL.bInt_i, DL.bGcd_i, DL.bLen_l, DL.bLen_t, DL.opAdd_t, DL.opAdd_l, DL.opIx_l, DL.opIx_t, DL.opSl_t, DL.opSl_l, DL.opRev_t, DL.opRev_l, DL.bList_l, DL.bList_t, DL.bTup_l, DL.bTup_t, DL.atI0, DL.atI1, DL.atI2, DL.atI3, DL.items_t, DL.items_l]
  refine ⟨_, opMul_ok za zm (by decide), _, opMul_ok zv zn (by decide), _, rfl, _, opMul_ok zs zm (by decide), _, opFdiv_ok (Int.mul_pos (by omega) (by omega)) (sz_mul zs zm) (by decide), _, opMod_ok (by decide), _, opEq_int, _, rfl, ?_⟩
  by_cases h : (a * m + v * n) / (s * m) % 2 = 0
  · rw [if_pos (decide_eq_true h)]
    rw [wayL, if_pos h] at q
    exact q
  · rw [if_neg (by simpa using h)]
    rw [wayL, if_neg h] at q
    exact q
section
variable {P : Program} {w : World} {K : PySem.W.Frag} {mg : Str → Option Value} {base : Heap} {CN : String → Option Addr}
theorem ok__line_way {f : Addr} {fd : FuncData} (F : Fun K "_line_way" "_line_way" s__line_way f fd) (g : G K mg CN)  : FnG P w K mg base 1 f fd ["line", "time"] (spP K CN D__line_way) := by
  have sc := sc__line_way
  exact fun_okP (m := m__line_way) F sc (by decide) len__line_way (fun cdv A outer s H E C W hw hr tk =>
    (pds_cons (pds_asg (ps_asg (dv 0) (pdg_tup rfl (gcons (dg 2 sc.nd) (gcons (dg 3 sc.nd) (gcons (dg 4 sc.nd) pdgs_nil))))))
    (pds_cons (pds_asg (ps_asg (dv 1) (pdg_tup rfl (gcons (dg 5 sc.nd) (gcons (dg 6 sc.nd) pdgs_nil)))))
    (pds_cons (pds_asg (ps_asg (pd_op op_fdivW rl_fdiv (pd_op or_add rl_add (pd_op or_mul rl_mul (dv 3) (dv 6)) (pd_op or_mul rl_mul (dv 4) (dv 5))) (pd_op or_mul rl_mul (dv 2) (dv 6))) (dg 7 sc.nd)))
    (pds_cons (pds_if (pdt_cmp (or_eqD (RoomG.u64 hr)) rl_eq (pd_op op_mod rl_mod (dv 7) pd_int) pd_int (nomark _)) (pds_one (pds_ret (pdr_of (dv 4)))) pds_nil)
    (pds_one (pds_ret (pdr_of (pd_un un_neg rl_neg (dv 4)))))))))) rd__line_way
end
end LW
namespace LW
open PySem PySem.Spec PyProof.Rows L2 DL
def m__way (W : WD) : MS :=
  mRet (mrOf (mCallB bTup (mCons (mLc (miSeq (mCall D_lines_of W (mCons (mVar 0) (mCons (mVar 1) (mNil))))) (mgName 3) (mTYes) (mCall D__line_way wF (mCons (mVar 3) (mCons (mVar 2) (mNil)))) [3]) mNil)))
def wayN (s a v n m : Int) : Int := wayL s (lineA v a) (lineV v) n m
def wayK (n m : Int) : PyData → Option PyData
  | .tuple [.int s, .int a, .int v] => some (.int (wayL s a v n m))
  | _ => none
def D__way : PSpec := fun ds Q _ => ∃ a b x y p q n m, ds = [.tuple [.int a, .int b], .tuple [.int x, .int y, .int p, .int q], .tuple [.int n, .int m]] ∧ 1 ≤ a ∧ 1 ≤ b ∧ 1 ≤ m ∧ sz 1000 a ∧ sz 1000 b ∧ sz 1000 x ∧ sz 1000 y ∧ sz 1000 p ∧ sz 1000 q ∧ sz 1000 n ∧ sz 1000 m ∧ Q (.va (.tuple [.int (wayN a x p n m), .int (wayN b y q n m)]))
theorem len__way : ∀ ds Q E, D__way ds Q E → ds.length = 3 := by
  rintro _ Q E ⟨a, b, x, y, p, q, n, m, rfl, _⟩
  rfl
theorem rd__way : ∀ ds Q E, D__way ds Q E → m__way (fun c _ => E c) (endP Q) (slots0 4 ds) := by
  rintro _ Q E ⟨a, b, x, y, p, q, n, m, rfl, ha, hb, hm, za, zb, zx, zy, zp, zq, zn, zm, hQ⟩
  unfold m__way
  simp only [DL.mSeq, DL.mAsg, DL.mAsgR, DL.mAsgM, DL.mrs, DL.ssets, DL.mIf, DL.mRet, DL.mRetN, DL.mrOf, DL.mrLst, DL.mrCat, DL.mrCall, DL.mDrop, DL.mNext, DL.mBreak, DL.mCont, DL.mC, DL.mVar, DL.mOp2, DL.mOp1, DL.mAnd, DL.mOr, DL.mNot, DL.mIfE, DL.mChain, DL.mNil, DL.mCons, DL.mTup, DL.mLst, DL.mCallB, DL.mDict0, DL.mPart, DL.mNoPart, DL.mSl, DL.mCall, DL.mCallK, DL.mCallW, DL.mLenScr, DL.mWell, DL.mT, DL.mTAnd, DL.mTOr, DL.mTNot, DL.mTYes, DL.mgName, DL.mgNil_n, DL.mgCons_c, DL.mgTup_t, DL.mgTup_l, DL.miSeq, DL.miRng1, DL.miRng2, DL.mRaise, DL.mApp, DL.mFor, DL.mLc, DL.mrLc, DL.sget, DL.sset, DL.slots0, DL.slotsW, DL.endP, DL.endW, DL.endL, DL.wF, DL.fz_va, DL.fz_own, List.length_cons, List.length_nil, List.map_cons, List.map_nil, List.replicate_succ, List.replicate_zero, Nat.reduceAdd, Nat.reduceSub, Nat.reduceLeDiff, List.cons_append, List.nil_append, Nat.zero_add, Nat.add_zero, Nat.sub_self, Option.some.injEq, PyData.bool.injEq, PyData.int.injEq, PyData.tuple.injEq, PyData.list.injEq, PyData.str.injEq, List.cons.injEq, DL.S.va.injEq, DL.S.own.injEq, DL.S.well.injEq, DL.S.scr.injEq, and_true, true_and, exists_eq_left', exists_eq_left, exists_eq_right, exists_eq_right', exists_and_left, exists_and_right, exists_eq, exists_eq', reduceCtorEq, false_and, and_false, exists_const, if_true, if_false, Bool.false_eq_true, reduceIte, Bool.not_true, Bool.not_false, DL.bIsi, List.any_cons, List.any_nil, Bool.or_false, Bool.or_true, Bool.false_or, Bool.true_or, DL.isK, DL.opAdd_i, DL.opSub_i, DL.opLt_i, DL.opLe_i, DL.opGt_i, DL.opGe_i, DL.opEq_int, DL.opNe_int, DL.opEq_b, DL.opNe_b, DL.opEq_nn, beq_self_eq_true, DL.opEq_str, DL.opNe_str, DL.opIsN_n, DL.opNotN_n, DL.isN, DL.opIsB_b, DL.opNotB_b, DL.opNeg_i, DL.bAbs_i, DL.bMax_i, DL.bMin_i, DL.bInt_i, DL.bGcd_i, DL.bLen_l, DL.bLen_t, DL.opAdd_t, DL.opAdd_l, DL.opIx_l, DL.opIx_t, DL.opSl_t, DL.opSl_l, DL.opRev_t, DL.opRev_l, DL.bList_l, DL.bList_t, DL.bTup_l, DL.bTup_t, DL.atI0, DL.atI1, DL.atI2, DL.atI3, DL.items_t, DL.items_l]
  refine ⟨a, b, x, y, p, q, rfl, _, rfl, _, rfl, rfl, ?_⟩
  refine lcL_run (fun s => ∃ x3, s = [.va (.tuple [.int a, .int b]), .va (.tuple [.int x, .int y, .int p, .int q]), .va (.tuple [.int n, .int m]), x3]) (wayK n m) _ ?_ _ [] ⟨_, rfl⟩ (by simp) ?_
  · rintro d hd s ⟨x3, rfl⟩ Y N hY hN
    simp only [List.mem_cons, List.not_mem_nil, or_false] at hd
    simp only [swipe, sset]
    rcases hd with rfl | rfl
    · rw [lineD_eq] at hY ⊢
      simp only [DL.mSeq, DL.mAsg, DL.mAsgR, DL.mAsgM, DL.mrs, DL.ssets, DL.mIf, DL.mRet, DL.mRetN, DL.mrOf, DL.mrLst, DL.mrCat, DL.mrCall, DL.mDrop, DL.mNext, DL.mBreak, DL.mCont, DL.mC, DL.mVar, DL.mOp2, DL.mOp1, DL.mAnd, DL.mOr, DL.mNot, DL.mIfE, DL.mChain, DL.mNil, DL.mCons, DL.mTup, DL.mLst, DL.mCallB, DL.mDict0, DL.mPart, DL.mNoPart, DL.mSl, DL.mCall, DL.mCallK, DL.mCallW, DL.mLenScr, DL.mWell, DL.mT, DL.mTAnd, DL.mTOr, DL.mTNot, DL.mTYes, DL.mgName, DL.mgNil_n, DL.mgCons_c, DL.mgTup_t, DL.mgTup_l, DL.miSeq, DL.miRng1, DL.miRng2, DL.mRaise, DL.mApp, DL.mFor, DL.mLc, DL.mrLc, DL.sget, DL.sset, DL.slots0, DL.slotsW, DL.endP, DL.endW, DL.endL, DL.wF, DL.fz_va, DL.fz_own, List.length_cons, List.length_nil, List.map_cons, List.map_nil, List.replicate_succ, List.replicate_zero, Nat.reduceAdd, Nat.reduceSub, Nat.reduceLeDiff, List.cons_append, List.nil_append, Nat.zero_add, Nat.add_zero, Nat.sub_self, Option.some.injEq, PyData.bool.injEq, PyData.int.injEq, PyData.tuple.injEq, PyData.list.injEq, PyData.str.injEq, List.cons.injEq, DL.S.va.injEq, DL.S.own.injEq, DL.S.well.injEq, DL.S.scr.injEq, and_true, true_and, exists_eq_left', exists_eq_left, exists_eq_right, exists_eq_right', exists_and_left, exists_and_right, exists_eq, exists_eq', reduceCtorEq, false_and, and_false, exists_const, if_true, if_false, Bool.false_eq_true, reduceIte, Bool.not_true, Bool.not_false, DL.bIsi, List.any_cons, List.any_nil, Bool.or_false, Bool.or_true, Bool.false_or, Bool.true_or, DL.isK, DL.opAdd_i, DL.opSub_i, DL.opLt_i, DL.opLe_i, DL.opGt_i, DL.opGe_i, DL.opEq_int, DL.opNe_int, DL.opEq_b, DL.opNe_b, DL.opEq_nn, beq_self_eq_true, DL.opEq_str, DL.opNe_str, DL.opIsN_n, DL.opNotN_n, DL.isN, DL.opIsB_b, DL.opNotB_b, DL.opNeg_i, DL.bAbs_i, DL.bMax_i, DL.bMin_i, DL.bInt_i, DL.bGcd_i, DL.bLen_l, DL.bLen_t, DL.opAdd_t, DL.opAdd_l, DL.opIx_l, DL.opIx_t, DL.opSl_t, DL.opSl_l, DL.opRev_t, DL.opRev_l, DL.bList_l, DL.bList_t, DL.bTup_l, DL.bTup_t, DL.atI0, DL.atI1, DL.atI2, DL.atI3, DL.items_t, DL.items_l]
      exact ⟨_, _, _, n, m, rfl, ha, hm, za, sz_lineA zx, sz_lineV zp, zn, zm, _, rfl, hY _ _ rfl ⟨_, rfl⟩⟩
    · rw [lineD_eq] at hY ⊢
      simp only [DL.mSeq, DL.mAsg, DL.mAsgR, DL.mAsgM, DL.mrs, DL.ssets, DL.mIf, DL.mRet, DL.mRetN, DL.mrOf, DL.mrLst, DL.mrCat, DL.mrCall, DL.mDrop, DL.mNext, DL.mBreak, DL.mCont, DL.mC, DL.mVar, DL.mOp2, DL.mOp1, DL.mAnd, DL.mOr, DL.mNot, DL.mIfE, DL.mChain, DL.mNil, DL.mCons, DL.mTup, DL.mLst, DL.mCallB, DL.mDict0, DL.mPart, DL.mNoPart, DL.mSl, DL.mCall, DL.mCallK, DL.mCallW, DL.mLenScr, DL.mWell, DL.mT, DL.mTAnd, DL.mTOr, DL.mTNot, DL.mTYes, DL.mgName, DL.mgNil_n, DL.mgCons_c, DL.mgTup_t, DL.mgTup_l, DL.miSeq, DL.miRng1, DL.miRng2, DL.mRaise, DL.mApp, DL.mFor, DL.mLc, DL.mrLc, DL.sget, DL.sset, DL.slots0, DL.slotsW, DL.endP, DL.endW, DL.endL, DL.wF, DL.fz_va, DL.fz_own, List.length_cons, List.length_nil, List.map_cons, List.map_nil, List.replicate_succ, List.replicate_zero, Nat.reduceAdd, Nat.reduceSub, Nat.reduceLeDiff, List.cons_append, List.nil_append, Nat.zero_add, Nat.add_zero, Nat.sub_self, Option.some.injEq, PyData.bool.injEq, PyData.int.injEq, PyData.tuple.injEq, PyData.list.injEq, PyData.str.injEq, List.cons.injEq, DL.S.va.injEq, DL.S.own.injEq, DL.S.well.injEq, DL.S.scr.injEq, and_true, true_and, exists_eq_left', exists_eq_left, exists_eq_right, exists_eq_right', exists_and_left, exists_and_right, exists_eq, exists_eq', reduceCtorEq, false_and, and_false, exists_const, if_true, if_false, Bool.false_eq_true, reduceIte, Bool.not_true, Bool.not_false, DL.bIsi, List.any_cons, List.any_nil, Bool.or_false, Bool.or_true, Bool.false_or, Bool.true_or, DL.isK, DL.opAdd_i, DL.opSub_i, DL.opLt_i, DL.opLe_i, DL.opGt_i, DL.opGe_i, DL.opEq_int, DL.opNe_int, DL.opEq_b, DL.opNe_b, DL.opEq_nn, beq_self_eq_true, DL.opEq_str, DL.opNe_str, DL.opIsN_n, DL.opNotN_n, DL.isN, DL.opIsB_b, DL.opNotB_b, DL.opNeg_i, DL.bAbs_i, DL.bMax_i, DL.bMin_i, DL.bInt_i, DL.bGcd_i, DL.bLen_l, DL.bLen_t, DL.opAdd_t, DL.opAdd_l, DL.opIx_l, DL.opIx_t, DL.opSl_t, DL.opSl_l, DL.opRev_t, DL.opRev_l, DL.bList_l, DL.bList_t, DL.bTup_l, DL.bTup_t, DL.atI0, DL.atI1, DL.atI2, DL.atI3, DL.items_t, DL.items_l]
      exact ⟨_, _, _, n, m, rfl, hb, hm, zb, sz_lineA zy, sz_lineV zq, zn, zm, _, rfl, hY _ _ rfl ⟨_, rfl⟩⟩
  · rintro s ⟨x3, rfl⟩
    rw [lineD_eq, lineD_eq]
    exact hQ
section
variable {P : Program} {w : World} {K : PySem.W.Frag} {mg : Str → Option Value} {base : Heap} {CN : String → Option Addr}
theorem ok__way {f : Addr} {fd : FuncData} (F : Fun K "_way" "_way" s__way f fd) (g : G K mg CN) (c__line_way : CalP P w K mg base CN 1 "_line_way" D__line_way) (c_lines_of : CalP P w K mg base CN 2 "lines_of" D_lines_of) : FnG P w K mg base 3 f fd ["table", "shot", "time"] (spP K CN D__way) := by
  have sc := sc__way
  exact fun_okP (m := m__way) F sc (by decide) len__way (fun cdv A outer s H E C W hw hr tk =>
    (pds_one (pds_ret (pdr_of (pd_tupOf g.b_tuple (pd_lc (pe_lc (own := [("line", 3)]) rfl sc.nd (pdi_seq (pd_call c_lines_of hr (by decide) tk (pda_cons (dv 0) (pda_cons (dv 1) pda_nil)))) (blkOk_by (N := ["table", "shot", "time", "line"]) (sc := (defScope s__way)) (by decide +kernel)) (fun _ _ _ _ _ => (dgv 3 (vs := [3]) sc.nd)) (fun _ _ _ _ _ => pdts_nil) (fun _ _ _ _ _ => (pd_call c__line_way hr (by decide) takesF (pda_cons (dv 3) (pda_cons (dv 2) pda_nil))))))))))) rd__way
end
end LW
namespace LW
open PySem PySem.Spec PyProof.Rows L2 DL
def m_way_at (W : WD) : MS :=
  mSeq (mDrop (mCall D__check_all W (mCons (mVar 0) (mCons (mVar 1) (mCons (mVar 2) (mNil))))))
  (mRet (mrOf (mCall D__way W (mCons (mVar 0) (mCons (mVar 1) (mCons (mVar 2) (mNil)))))))
def wayD : PyData → PyData → PyData → PyData
  | .tuple [.int a, .int b], .tuple [.int x, .int y, .int p, .int q], .tuple [.int n, .int m] => .tuple [.int (wayN a x p n m), .int (wayN b y q n m)]
  | _, _, _ => .none
def D_way_at : PSpec := fun ds Q E => ∃ t v f, ds = [t, v, f] ∧ (isTab t = false → E "InvalidTable") ∧ (isTab t = true → isShot t v = false → E "InvalidShot") ∧ (isTab t = true → isShot t v = true → isFrac f = false → E "InvalidTime") ∧ (isTab t = true → isShot t v = true → isFrac f = true → szD t ∧ szD v ∧ szD f ∧ Q (.va (wayD t v f)))
theorem len_way_at : ∀ ds Q E, D_way_at ds Q E → ds.length = 3 := by
  rintro _ Q E ⟨t, v, f, rfl, _⟩
  rfl
theorem rd_way_at : ∀ ds Q E, D_way_at ds Q E → m_way_at (fun c _ => E c) (endP Q) (slots0 3 ds) := by
  rintro _ Q E ⟨t, v, f, rfl, q1, q2, q3, q4⟩
  unfold m_way_at
  simp only [DL.mSeq, DL.mAsg, DL.mAsgR, DL.mAsgM, DL.mrs, DL.ssets, DL.mIf, DL.mRet, DL.mRetN, DL.mrOf, DL.mrLst, DL.mrCat, DL.mrCall, DL.mDrop, DL.mNext, DL.mBreak, DL.mCont, DL.mC, DL.mVar, DL.mOp2, DL.mOp1, DL.mAnd, DL.mOr, DL.mNot, DL.mIfE, DL.mChain, DL.mNil, DL.mCons, DL.mTup, DL.mLst, DL.mCallB, DL.mDict0, DL.mPart, DL.mNoPart, DL.mSl, DL.mCall, DL.mCallK, DL.mCallW, DL.mLenScr, DL.mWell, DL.mT, DL.mTAnd, DL.mTOr, DL.mTNot, DL.mTYes, DL.mgName, DL.mgNil_n, DL.mgCons_c, DL.mgTup_t, DL.mgTup_l, DL.miSeq, DL.miRng1, DL.miRng2, DL.mRaise, DL.mApp, DL.mFor, DL.mLc, DL.mrLc, DL.sget, DL.sset, DL.slots0, DL.slotsW, DL.endP, DL.endW, DL.endL, DL.wF, DL.fz_va, DL.fz_own, List.length_cons, List.length_nil, List.map_cons, List.map_nil, List.replicate_succ, List.replicate_zero, Nat.reduceAdd, Nat.reduceSub, Nat.reduceLeDiff, List.cons_append, List.nil_append, Nat.zero_add, Nat.add_zero, Nat.sub_self, Option.some.injEq, PyData.bool.injEq, PyData.int.injEq, PyData.tuple.injEq, PyData.list.injEq, PyData.str.injEq, List.cons.injEq, DL.S.va.injEq, DL.S.own.injEq, DL.S.well.injEq, DL.S.scr.injEq, and_true, true_and, exists_eq_left', exists_eq_left, exists_eq_right, exists_eq_right', exists_and_left, exists_and_right, exists_eq, exists_eq', reduceCtorEq, false_and, and_false, exists_const, if_true, if_false, Bool.false_eq_true, reduceIte, Bool.not_true, Bool.not_false, DL.bIsi, List.any_cons, List.any_nil, Bool.or_false, Bool.or_true, Bool.false_or, Bool.true_or, DL.isK, DL.opAdd_i, DL.opSub_i, DL.opLt_i, DL.opLe_i, DL.opGt_i, DL.opGe_i, DL.opEq_int, DL.opNe_int, DL.opEq_b, DL.opNe_b, DL.opEq_nn, beq_self_eq_true, DL.opEq_str, DL.opNe_str, DL.opIsN_n, DL.opNotN_n, DL.isN, DL.opIsB_b, DL.opNotB_b, DL.opNeg_i, DL.bAbs_i, DL.bMax_i, DL.bMin_i, DL.bInt_i, DL.bGcd_i, DL.bLen_l, DL.bLen_t, DL.opAdd_t, DL.opAdd_l, DL.opIx_l, DL.opIx_t, DL.opSl_t, DL.opSl_l, DL.opRev_t, DL.opRev_l, DL.bList_l, DL.bList_t, DL.bTup_l, DL.bTup_t, DL.atI0, DL.atI1, DL.atI2, DL.atI3, DL.items_t, DL.items_l]
  refine ⟨t, v, f, rfl, q1, q2, q3, fun h1 h2 h3 => ⟨⟨_, rfl⟩, ?_⟩⟩
  obtain ⟨z1, z2, z3, q⟩ := q4 h1 h2 h3
  obtain ⟨a, b, x, y, p, r, rfl, rfl, -⟩ := shot_inv h2
  obtain ⟨n, m, rfl, hm, -⟩ := frac_inv h3
  simp only [isTab, Bool.and_eq_true, decide_eq_true_eq] at h1
  exact ⟨a, b, x, y, p, r, n, m, rfl, h1.1, h1.2, hm, z1.1, z1.2, z2.1, z2.2.1, z2.2.2.1, z2.2.2.2, z3.1, z3.2, _, rfl, q⟩
section
variable {P : Program} {w : World} {K : PySem.W.Frag} {mg : Str → Option Value} {base : Heap} {CN : String → Option Addr}
theorem ok_way_at {f : Addr} {fd : FuncData} (F : Fun K "way_at" "way_at" s_way_at f fd) (g : G K mg CN) (c__check_all : CalP P w K mg base CN 7 "_check_all" D__check_all) (c__way : CalP P w K mg base CN 3 "_way" D__way) : FnG P w K mg base 8 f fd ["table", "shot", "time"] (spP K CN D_way_at) := by
  have sc := sc_way_at
  exact fun_okP (m := m_way_at) F sc (by decide) len_way_at (fun cdv A outer s H E C W hw hr tk =>
    (pds_cons (pds_drop (pd_call c__check_all hr (by decide) tk (pda_cons (dv 0) (pda_cons (dv 1) (pda_cons (dv 2) pda_nil)))))
    (pds_one (pds_ret (pdr_of (pd_call c__way hr (by decide) tk (pda_cons (dv 0) (pda_cons (dv 1) (pda_cons (dv 2) pda_nil))))))))) rd_way_at
end
end LW
namespace LW
open PySem PySem.Spec PyProof.Rows L2 DL
def m_shot_at (W : WD) : MS :=
  mSeq (mDrop (mCall D__check_all W (mCons (mVar 0) (mCons (mVar 1) (mCons (mVar 2) (mNil))))))
  (mSeq (mAsg (mCall D__place W (mCons (mVar 0) (mCons (mVar 1) (mCons (mVar 2) (mNil))))) (mgTup 2 (mgCons (mgTup 2 (mgCons (mgName 3) (mgCons (mgName 4) (mgNil)))) (mgCons (mgTup 2 (mgCons (mgName 5) (mgCons (mgName 6) (mgNil)))) (mgNil)))))
  (mSeq (mIf (mTOr (mT (mOp2 opNe (mVar 4) (mC (.int 1)))) (mT (mOp2 opNe (mVar 6) (mC (.int 1))))) (mRet (mrOf (mC .none))) (mNext))
  (mSeq (mAsg (mCall D__way W (mCons (mVar 0) (mCons (mVar 1) (mCons (mVar 2) (mNil))))) (mgTup 2 (mgCons (mgName 7) (mgCons (mgName 8) (mgNil)))))
  (mRet (mrOf (mTup (mCons (mVar 3) (mCons (mVar 5) (mCons (mVar 7) (mCons (mVar 8) (mNil)))))))))))
def pairN : PyData → Int × Int
  | .tuple [.int a, .int b] => (a, b)
  | _ => (0, 0)
theorem place_pair {s a v n m : Int} (hs : 1 ≤ s) (hm : 1 ≤ m) : placeN s a v n m = .tuple [.int (pairN (placeN s a v n m)).1, .int (pairN (placeN s a v n m)).2] := by
  obtain ⟨R, k, e, _⟩ := fold_is (T := (lineA v a * m + lineV v * n) / (Nat.gcd (lineA v a * m + lineV v * n).natAbs m.natAbs : Nat)) hs (div_gcd_pos (t := lineA v a * m + lineV v * n) hm)
  have e2 : placeN s a v n m = _ := e
  rw [e2]
  rfl
def shotN (a b x y p q n m : Int) : PyData := if (pairN (placeN a x p n m)).2 = 1 ∧ (pairN (placeN b y q n m)).2 = 1 then .tuple [.int (pairN (placeN a x p n m)).1, .int (pairN (placeN b y q n m)).1, .int (wayN a x p n m), .int (wayN b y q n m)] else .none
def shotD : PyData → PyData → PyData → PyData
  | .tuple [.int a, .int b], .tuple [.int x, .int y, .int p, .int q], .tuple [.int n, .int m] => shotN a b x y p q n m
  | _, _, _ => .none
def D_shot_at : PSpec := fun ds Q E => ∃ t v f, ds = [t, v, f] ∧ (isTab t = false → E "InvalidTable") ∧ (isTab t = true → isShot t v = false → E "InvalidShot") ∧ (isTab t = true → isShot t v = true → isFrac f = false → E "InvalidTime") ∧ (isTab t = true → isShot t v = true → isFrac f = true → szD t ∧ szD v ∧ szD f ∧ Q (.va (shotD t v f)))
theorem len_shot_at : ∀ ds Q E, D_shot_at ds Q E → ds.length = 3 := by
  rintro _ Q E ⟨t, v, f, rfl, _⟩
  rfl
theorem rd_shot_at : ∀ ds Q E, D_shot_at ds Q E → m_shot_at (fun c _ => E c) (endP Q) (slots0 9 ds) := by
  rintro _ Q E ⟨t, v, f, rfl, q1, q2, q3, q4⟩
  unfold m_shot_at
  simp only [DL.mSeq, DL.mAsg, DL.mAsgR, DL.mAsgM, DL.mrs, DL.ssets, DL.mIf, DL.mRet, DL.mRetN, DL.mrOf, DL.mrLst, DL.mrCat, DL.mrCall, DL.mDrop, DL.mNext, DL.mBreak, DL.mCont, DL.mC, DL.mVar, DL.mOp2, DL.mOp1, DL.mAnd, DL.mOr, DL.mNot, DL.mIfE, DL.mChain, DL.mNil, DL.mCons, DL.mTup, DL.mLst, DL.mCallB, DL.mDict0, DL.mPart, DL.mNoPart, DL.mSl, DL.mCall, DL.mCallK, DL.mCallW, DL.mLenScr, DL.mWell, DL.mT, DL.mTAnd, DL.mTOr, DL.mTNot, DL.mTYes, DL.mgName, DL.mgNil_n, DL.mgCons_c, DL.mgTup_t, DL.mgTup_l, DL.miSeq, DL.miRng1, DL.miRng2, DL.mRaise, DL.mApp, DL.mFor, DL.mLc, DL.mrLc, DL.sget, DL.sset, DL.slots0, DL.slotsW, DL.endP, DL.endW, DL.endL, DL.wF, DL.fz_va, DL.fz_own, List.length_cons, List.length_nil, List.map_cons, List.map_nil, List.replicate_succ, List.replicate_zero, Nat.reduceAdd, Nat.reduceSub, Nat.reduceLeDiff, List.cons_append, List.nil_append, Nat.zero_add, Nat.add_zero, Nat.sub_self, Option.some.injEq, PyData.bool.injEq, PyData.int.injEq, PyData.tuple.injEq, PyData.list.injEq, PyData.str.injEq, List.cons.injEq, DL.S.va.injEq, DL.S.own.injEq, DL.S.well.injEq, DL.S.scr.injEq, and_true, true_and, exists_eq_left', exists_eq_left, exists_eq_right, exists_eq_right', exists_and_left, exists_and_right, exists_eq, exists_eq', reduceCtorEq, false_and, and_false, exists_const, if_true, if_false, Bool.false_eq_true, reduceIte, Bool.not_true, Bool.not_false, DL.bIsi, List.any_cons, List.any_nil, Bool.or_false, Bool.or_true, Bool.false_or, Bool.true_or, DL.isK, DL.opAdd_i, DL.opSub_i, DL.opLt_i, DL.opLe_i, DL.opGt_i, DL.opGe_i, DL.opEq_int, DL.opNe_int, DL.opEq_b, DL.opNe_b, DL.opEq_nn, beq_self_eq_true, DL.opEq_str, DL.opNe_str, DL.opIsN_n, DL.opNotN_n, DL.isN, DL.opIsB_b, DL.opNotB_b, DL.opNeg_i, DL.bAbs_i, DL.bMax_i, DL.bMin_i, DL.bInt_i, DL.bGcd_i, DL.bLen_l, DL.bLen_t, DL.opAdd_t, DL.opAdd_l, DL.opIx_l, DL.opIx_t, DL.opSl_t, DL.opSl_l, DL.opRev_t, DL.opRev_l, DL.bList_l, DL.bList_t, DL.bTup_l, DL.bTup_t, DL.atI0, DL.atI1, DL.atI2, DL.atI3, DL.items_t, DL.items_l]
  refine ⟨t, v, f, rfl, q1, q2, q3, fun h1 h2 h3 => ⟨⟨_, rfl⟩, ?_⟩⟩
  obtain ⟨z1, z2, z3, q⟩ := q4 h1 h2 h3
  obtain ⟨a, b, x, y, p, r, rfl, rfl, -⟩ := shot_inv h2
  obtain ⟨n, m, rfl, hm, -⟩ := frac_inv h3
  simp only [isTab, Bool.and_eq_true, decide_eq_true_eq] at h1
  refine ⟨a, b, x, y, p, r, n, m, rfl, h1.1, h1.2, hm, z1.1, z1.2, z2.1, z2.2.1, z2.2.2.1, z2.2.2.2, z3.1, z3.2, _, rfl, ?_⟩
  rw [place_pair (a := x) (v := p) (n := n) h1.1 hm, place_pair (a := y) (v := r) (n := n) h1.2 hm]
  have q' : Q (.va (shotN a b x y p r n m)) := q
  unfold shotN at q'
  generalize pairN (placeN a x p n m) = A at *
  generalize pairN (placeN b y r n m) = B at *
  simp only [DL.mSeq, DL.mAsg, DL.mAsgR, DL.mAsgM, DL.mrs, DL.ssets, DL.mIf, DL.mRet, DL.mRetN, DL.mrOf, DL.mrLst, DL.mrCat, DL.mrCall, DL.mDrop, DL.mNext, DL.mBreak, DL.mCont, DL.mC, DL.mVar, DL.mOp2, DL.mOp1, DL.mAnd, DL.mOr, DL.mNot, DL.mIfE, DL.mChain, DL.mNil, DL.mCons, DL.mTup, DL.mLst, DL.mCallB, DL.mDict0, DL.mPart, DL.mNoPart, DL.mSl, DL.mCall, DL.mCallK, DL.mCallW, DL.mLenScr, DL.mWell, DL.mT, DL.mTAnd, DL.mTOr, DL.mTNot, DL.mTYes, DL.mgName, DL.mgNil_n, DL.mgCons_c, DL.mgTup_t, DL.mgTup_l, DL.miSeq, DL.miRng1, DL.miRng2, DL.mRaise, DL.mApp, DL.mFor, DL.mLc, DL.mrLc, DL.sget, DL.sset, DL.slots0, DL.slotsW, DL.endP, DL.endW, DL.endL, DL.wF, DL.fz_va, DL.fz_own, List.length_cons, List.length_nil, List.map_cons, List.map_nil, List.replicate_succ, List.replicate_zero, Nat.reduceAdd, Nat.reduceSub, Nat.reduceLeDiff, List.cons_append, List.nil_append, Nat.zero_add, Nat.add_zero, Nat.sub_self, Option.some.injEq, PyData.bool.injEq, PyData.int.injEq, PyData.tuple.injEq, PyData.list.injEq, PyData.str.injEq, List.cons.injEq, DL.S.va.injEq, DL.S.own.injEq, DL.S.well.injEq, DL.S.scr.injEq, and_true, true_and, exists_eq_left', exists_eq_left, exists_eq_right, exists_eq_right', exists_and_left, exists_and_right, exists_eq, exists_eq', reduceCtorEq, false_and, and_false, exists_const, if_true, if_false, Bool.false_eq_true, reduceIte, Bool.not_true, Bool.not_false, DL.bIsi, List.any_cons, List.any_nil, Bool.or_false, Bool.or_true, Bool.false_or, Bool.true_or, DL.isK, DL.opAdd_i, DL.opSub_i, DL.opLt_i, DL.opLe_i, DL.opGt_i, DL.opGe_i, DL.opEq_int, DL.opNe_int, DL.opEq_b, DL.opNe_b, DL.opEq_nn, beq_self_eq_true, DL.opEq_str, DL.opNe_str, DL.opIsN_n, DL.opNotN_n, DL.isN, DL.opIsB_b, DL.opNotB_b, DL.opNeg_i, DL.bAbs_i, DL.bMax_i, DL.bMin_i, DL.bInt_i, DL.bGcd_i, DL.bLen_l, DL.bLen_t, DL.opAdd_t, DL.opAdd_l, DL.opIx_l, DL.opIx_t, DL.opSl_t, DL.opSl_l, DL.opRev_t, DL.opRev_l, DL.bList_l, DL.bList_t, DL.bTup_l, DL.bTup_t, DL.atI0, DL.atI1, DL.atI2, DL.atI3, DL.items_t, DL.items_l]
  by_cases hA : A.2 = 1
  · rw [if_neg (by simp [hA])]
    by_cases hB : B.2 = 1
    · rw [if_neg (by simp [hB])]
      refine ⟨a, b, x, y, p, r, n, m, rfl, h1.1, h1.2, hm, z1.1, z1.2, z2.1, z2.2.1, z2.2.2.1, z2.2.2.2, z3.1, z3.2, _, rfl, ?_⟩
      simp only [DL.mSeq, DL.mAsg, DL.mAsgR, DL.mAsgM, DL.mrs, DL.ssets, DL.mIf, DL.mRet, DL.mRetN, DL.mrOf, DL.mrLst, DL.mrCat, DL.mrCall, DL.mDrop, DL.mNext, DL.mBreak, DL.mCont, DL.mC, DL.mVar, DL.mOp2, DL.mOp1, DL.mAnd, DL.mOr, DL.mNot, DL.mIfE, DL.mChain, DL.mNil, DL.mCons, DL.mTup, DL.mLst, DL.mCallB, DL.mDict0, DL.mPart, DL.mNoPart, DL.mSl, DL.mCall, DL.mCallK, DL.mCallW, DL.mLenScr, DL.mWell, DL.mT, DL.mTAnd, DL.mTOr, DL.mTNot, DL.mTYes, DL.mgName, DL.mgNil_n, DL.mgCons_c, DL.mgTup_t, DL.mgTup_l, DL.miSeq, DL.miRng1, DL.miRng2, DL.mRaise, DL.mApp, DL.mFor, DL.mLc, DL.mrLc, DL.sget, DL.sset, DL.slots0, DL.slotsW, DL.endP, DL.endW, DL.endL, DL.wF, DL.fz_va, DL.fz_own, List.length_cons, List.length_nil, List.map_cons, List.map_nil, List.replicate_succ, List.replicate_zero, Nat.reduceAdd, Nat.reduceSub, Nat.reduceLeDiff, List.cons_append, List.nil_append, Nat.zero_add, Nat.add_zero, Nat.sub_self, Option.some.injEq, PyData.bool.injEq, PyData.int.injEq, PyData.tuple.injEq, PyData.list.injEq, PyData.str.injEq, List.cons.injEq, DL.S.va.injEq, DL.S.own.injEq, DL.S.well.injEq, DL.S.scr.injEq, and_true, true_and, exists_eq_left', exists_eq_left, exists_eq_right, exists_eq_right', exists_and_left, exists_and_right, exists_eq, exists_eq', reduceCtorEq, false_and, and_false, exists_const, if_true, if_false, Bool.false_eq_true, reduceIte, Bool.not_true, Bool.not_false, DL.bIsi, List.any_cons, List.any_nil, Bool.or_false, Bool.or_true, Bool.false_or, Bool.true_or, DL.isK, DL.opAdd_i, DL.opSub_i, DL.opLt_i, DL.opLe_i, DL.opGt_i, DL.opGe_i, DL.opEq_int, DL.opNe_int, DL.opEq_b, DL.opNe_b, DL.opEq_nn, beq_self_eq_true, DL.opEq_str, DL.opNe_str, DL.opIsN_n, DL.opNotN_n, DL.isN, DL.opIsB_b, DL.opNotB_b, DL.opNeg_i, DL.bAbs_i, DL.bMax_i, DL.bMin_i, DL.bInt_i, DL.bGcd_i, DL.bLen_l, DL.bLen_t, DL.opAdd_t, DL.opAdd_l, DL.opIx_l, DL.opIx_t, DL.opSl_t, DL.opSl_l, DL.opRev_t, DL.opRev_l, DL.bList_l, DL.bList_t, DL.bTup_l, DL.bTup_t, DL.atI0, DL.atI1, DL.atI2, DL.atI3, DL.items_t, DL.items_l]
      rw [if_pos ⟨hA, hB⟩] at q'
      exact q'
    · rw [if_pos (by simpa using hB)]
      rw [if_neg (fun h => hB h.2)] at q'
      exact q'
  · rw [if_pos (by simpa using hA)]
    rw [if_neg (fun h => hA h.1)] at q'
    exact q'
section
variable {P : Program} {w : World} {K : PySem.W.Frag} {mg : Str → Option Value} {base : Heap} {CN : String → Option Addr}
theorem ok_shot_at {f : Addr} {fd : FuncData} (F : Fun K "shot_at" "shot_at" s_shot_at f fd) (g : G K mg CN) (c__check_all : CalP P w K mg base CN 7 "_check_all" D__check_all) (c__place : CalP P w K mg base CN 3 "_place" D__place) (c__way : CalP P w K mg base CN 3 "_way" D__way) : FnG P w K mg base 8 f fd ["table", "shot", "time"] (spP K CN D_shot_at) := by
  have sc := sc_shot_at
  exact fun_okP (m := m_shot_at) F sc (by decide) len_shot_at (fun cdv A outer s H E C W hw hr tk =>
    (pds_cons (pds_drop (pd_call c__check_all hr (by decide) tk (pda_cons (dv 0) (pda_cons (dv 1) (pda_cons (dv 2) pda_nil)))))
    (pds_cons (pds_asg (ps_asg (pd_call c__place hr (by decide) tk (pda_cons (dv 0) (pda_cons (dv 1) (pda_cons (dv 2) pda_nil)))) (pdg_tup rfl (gcons (pdg_tup rfl (gcons (dg 3 sc.nd) (gcons (dg 4 sc.nd) pdgs_nil))) (gcons (pdg_tup rfl (gcons (dg 5 sc.nd) (gcons (dg 6 sc.nd) pdgs_nil))) pdgs_nil)))))
    (pds_cons (pds_if (pdt_ofw (pdw_or (pdt_cmp (or_neD (RoomG.u64 hr)) rl_ne (dv 4) pd_int (nomark _)) (pdw_or1 (pdt_cmp (or_neD (RoomG.u64 hr)) rl_ne (dv 6) pd_int (nomark _))))) (pds_one (pds_ret (pdr_of pd_non))) pds_nil)
    (pds_cons (pds_asg (ps_asg (pd_call c__way hr (by decide) tk (pda_cons (dv 0) (pda_cons (dv 1) (pda_cons (dv 2) pda_nil)))) (pdg_tup rfl (gcons (dg 7 sc.nd) (gcons (dg 8 sc.nd) pdgs_nil)))))
    (pds_one (pds_ret (pdr_of (pd_tup (pda_cons (dv 3) (pda_cons (dv 5) (pda_cons (dv 7) (pda_cons (dv 8) pda_nil))))))))))))) rd_shot_at
end
end LW
namespace LW
open PySem PySem.Spec PyProof.Rows L2 DL
def m_turned (W : WD) : MS :=
  mSeq (mIf (mTNot (mT (mCall D_is_any_shot W (mCons (mVar 0) (mNil))))) (mRaise "InvalidShot" W) (mNext))
  (mSeq (mAsg (mVar 0) (mgTup 4 (mgCons (mgName 1) (mgCons (mgName 2) (mgCons (mgName 3) (mgCons (mgName 4) (mgNil)))))))
  (mRet (mrOf (mTup (mCons (mVar 1) (mCons (mVar 2) (mCons (mOp1 opNeg (mVar 3)) (mCons (mOp1 opNeg (mVar 4)) (mNil)))))))))
def D_turned : PSpec := fun ds Q E => ∃ v, ds = [v] ∧ (isAny v = false → E "InvalidShot") ∧ ∀ x y p q, v = .tuple [.int x, .int y, .int p, .int q] → isAny v = true → Q (.va (.tuple [.int x, .int y, .int (-p), .int (-q)]))
theorem len_turned : ∀ ds Q E, D_turned ds Q E → ds.length = 1 := by
  rintro _ Q E ⟨v, rfl, _⟩
  rfl
theorem rd_turned : ∀ ds Q E, D_turned ds Q E → m_turned (fun c _ => E c) (endP Q) (slots0 5 ds) := by
  rintro _ Q E ⟨v, rfl, q1, q2⟩
  unfold m_turned
  simp only [DL.mSeq, DL.mAsg, DL.mAsgR, DL.mAsgM, DL.mrs, DL.ssets, DL.mIf, DL.mRet, DL.mRetN, DL.mrOf, DL.mrLst, DL.mrCat, DL.mrCall, DL.mDrop, DL.mNext, DL.mBreak, DL.mCont, DL.mC, DL.mVar, DL.mOp2, DL.mOp1, DL.mAnd, DL.mOr, DL.mNot, DL.mIfE, DL.mChain, DL.mNil, DL.mCons, DL.mTup, DL.mLst, DL.mCallB, DL.mDict0, DL.mPart, DL.mNoPart, DL.mSl, DL.mCall, DL.mCallK, DL.mCallW, DL.mLenScr, DL.mWell, DL.mT, DL.mTAnd, DL.mTOr, DL.mTNot, DL.mTYes, DL.mgName, DL.mgNil_n, DL.mgCons_c, DL.mgTup_t, DL.mgTup_l, DL.miSeq, DL.miRng1, DL.miRng2, DL.mRaise, DL.mApp, DL.mFor, DL.mLc, DL.mrLc, DL.sget, DL.sset, DL.slots0, DL.slotsW, DL.endP, DL.endW, DL.endL, DL.wF, DL.fz_va, DL.fz_own, List.length_cons, List.length_nil, List.map_cons, List.map_nil, List.replicate_succ, List.replicate_zero, Nat.reduceAdd, Nat.reduceSub, Nat.reduceLeDiff, List.cons_append, List.nil_append, Nat.zero_add, Nat.add_zero, Nat.sub_self, Option.some.injEq, PyData.bool.injEq, PyData.int.injEq, PyData.tuple.injEq, PyData.list.injEq, PyData.str.injEq, List.cons.injEq, DL.S.va.injEq, DL.S.own.injEq, DL.S.well.injEq, DL.S.scr.injEq, and_true, true_and, exists_eq_left', exists_eq_left, exists_eq_right, exists_eq_right', exists_and_left, exists_and_right, exists_eq, exists_eq', reduceCtorEq, false_and, and_false, exists_const, if_true, if_false, Bool.false_eq_true, reduceIte, Bool.not_true, Bool.not_false, DL.bIsi, List.any_cons, List.any_nil, Bool.or_false, Bool.or_true, Bool.false_or, Bool.true_or, DL.isK, DL.opAdd_i, DL.opSub_i, DL.opLt_i, DL.opLe_i, DL.opGt_i, DL.opGe_i, DL.opEq_int, DL.opNe_int, DL.opEq_b, DL.opNe_b, DL.opEq_nn, beq_self_eq_true, DL.opEq_str, DL.opNe_str, DL.opIsN_n, DL.opNotN_n, DL.isN, DL.opIsB_b, DL.opNotB_b, DL.opNeg_i, DL.bAbs_i, DL.bMax_i, DL.bMin_i, DL.bInt_i, DL.bGcd_i, DL.bLen_l, DL.bLen_t, DL.opAdd_t, DL.opAdd_l, DL.opIx_l, DL.opIx_t, DL.opSl_t, DL.opSl_l, DL.opRev_t, DL.opRev_l, DL.bList_l, DL.bList_t, DL.bTup_l, DL.bTup_t, DL.atI0, DL.atI1, DL.atI2, DL.atI3, DL.items_t, DL.items_l]
  refine ⟨v, rfl, _, rfl, _, rfl, ?_⟩
  cases h : isAny v with
  | false => exact q1 h
  | true =>
    obtain ⟨x, y, p, q, rfl, -⟩ := any_inv h
    rw [if_neg (by decide)]
    simp only [DL.mSeq, DL.mAsg, DL.mAsgR, DL.mAsgM, DL.mrs, DL.ssets, DL.mIf, DL.mRet, DL.mRetN, DL.mrOf, DL.mrLst, DL.mrCat, DL.mrCall, DL.mDrop, DL.mNext, DL.mBreak, DL.mCont, DL.mC, DL.mVar, DL.mOp2, DL.mOp1, DL.mAnd, DL.mOr, DL.mNot, DL.mIfE, DL.mChain, DL.mNil, DL.mCons, DL.mTup, DL.mLst, DL.mCallB, DL.mDict0, DL.mPart, DL.mNoPart, DL.mSl, DL.mCall, DL.mCallK, DL.mCallW, DL.mLenScr, DL.mWell, DL.mT, DL.mTAnd, DL.mTOr, DL.mTNot, DL.mTYes, DL.mgName, DL.mgNil_n, DL.mgCons_c, DL.mgTup_t, DL.mgTup_l, DL.miSeq, DL.miRng1, DL.miRng2, DL.mRaise, DL.mApp, DL.mFor, DL.mLc, DL.mrLc, DL.sget, DL.sset, DL.slots0, DL.slotsW, DL.endP, DL.endW, DL.endL, DL.wF, DL.fz_va, DL.fz_own, List.length_cons, List.length_nil, List.map_cons, List.map_nil, List.replicate_succ, List.replicate_zero, Nat.reduceAdd, Nat.reduceSub, Nat.reduceLeDiff, List.cons_append, List.nil_append, Nat.zero_add, Nat.add_zero, Nat.sub_self, Option.some.injEq, PyData.bool.injEq, PyData.int.injEq, PyData.tuple.injEq, PyData.list.injEq, PyData.str.injEq, List.cons.injEq, DL.S.va.injEq, DL.S.own.injEq, DL.S.well.injEq, DL.S.scr.injEq, and_true, true_and, exists_eq_left', exists_eq_left, exists_eq_right, exists_eq_right', exists_and_left, exists_and_right, exists_eq, exists_eq', reduceCtorEq, false_and, and_false, exists_const, if_true, if_false, Bool.false_eq_true, reduceIte, Bool.not_true, Bool.not_false, DL.bIsi, List.any_cons, List.any_nil, Bool.or_false, Bool.or_true, Bool.false_or, Bool.true_or, DL.isK, DL.opAdd_i, DL.opSub_i, DL.opLt_i, DL.opLe_i, DL.opGt_i, DL.opGe_i, DL.opEq_int, DL.opNe_int, DL.opEq_b, DL.opNe_b, DL.opEq_nn, beq_self_eq_true, DL.opEq_str, DL.opNe_str, DL.opIsN_n, DL.opNotN_n, DL.isN, DL.opIsB_b, DL.opNotB_b, DL.opNeg_i, DL.bAbs_i, DL.bMax_i, DL.bMin_i, DL.bInt_i, DL.bGcd_i, DL.bLen_l, DL.bLen_t, DL.opAdd_t, DL.opAdd_l, DL.opIx_l, DL.opIx_t, DL.opSl_t, DL.opSl_l, DL.opRev_t, DL.opRev_l, DL.bList_l, DL.bList_t, DL.bTup_l, DL.bTup_t, DL.atI0, DL.atI1, DL.atI2, DL.atI3, DL.items_t, DL.items_l]
    exact q2 x y p q rfl h
section
variable {P : Program} {w : World} {K : PySem.W.Frag} {mg : Str → Option Value} {base : Heap} {CN : String → Option Addr}
theorem ok_turned {f : Addr} {fd : FuncData} (F : Fun K "turned" "turned" s_turned f fd) (g : G K mg CN) (c_is_any_shot : CalP P w K mg base CN 3 "is_any_shot" D_is_any_shot) : FnG P w K mg base 4 f fd ["shot"] (spP K CN D_turned) := by
  obtain ⟨e_InvalidShot, n_InvalidShot, t_InvalidShot⟩ := g.x_InvalidShot
  have sc := sc_turned
  exact fun_okP (m := m_turned) F sc (by decide) len_turned (fun cdv A outer s H E C W hw hr tk =>
    (pds_cons (pds_if (pdt_not (pdt_val (pd_call c_is_any_shot hr (by decide) tk (pda_cons (dv 0) pda_nil)))) (pds_one (pds_raise rfl tk t_InvalidShot n_InvalidShot)) pds_nil)
    (pds_cons (pds_asg (ps_asg (dv 0) (pdg_tup rfl (gcons (dg 1 sc.nd) (gcons (dg 2 sc.nd) (gcons (dg 3 sc.nd) (gcons (dg 4 sc.nd) pdgs_nil)))))))
    (pds_one (pds_ret (pdr_of (pd_tup (pda_cons (dv 1) (pda_cons (dv 2) (pda_cons (pd_un un_neg rl_neg (dv 3)) (pda_cons (pd_un un_neg rl_neg (dv 4)) pda_nil))))))))))) rd_turned
end
end LW
namespace LW
open PySem PySem.Spec PyProof.Rows L2 DL
def m_scaled (W : WD) : MS :=
  mSeq (mDrop (mCall D_check_shot W (mCons (mVar 0) (mCons (mVar 1) (mNil)))))
  (mSeq (mIf (mTOr (mTNot (mT (mCall D_is_whole W (mCons (mVar 2) (mNil))))) (mT (mOp2 opLt (mVar 2) (mC (.int 1))))) (mRaise "InvalidNumber" W) (mNext))
  (mSeq (mAsg (mVar 0) (mgTup 2 (mgCons (mgName 3) (mgCons (mgName 4) (mgNil)))))
  (mSeq (mAsg (mVar 1) (mgTup 4 (mgCons (mgName 5) (mgCons (mgName 6) (mgCons (mgName 7) (mgCons (mgName 8) (mgNil)))))))
  (mRet (mrOf (mTup (mCons (mTup (mCons (mOp2 opMul (mVar 3) (mVar 2)) (mCons (mOp2 opMul (mVar 4) (mVar 2)) (mNil)))) (mCons (mTup (mCons (mOp2 opMul (mVar 5) (mVar 2)) (mCons (mOp2 opMul (mVar 6) (mVar 2)) (mCons (mVar 7) (mCons (mVar 8) (mNil)))))) (mNil)))))))))
def D_scaled : PSpec := fun ds Q E => ∃ t v k, ds = [t, v, k] ∧ (isTab t = false → E "InvalidTable") ∧ (isTab t = true → isShot t v = false → E "InvalidShot") ∧
  (isTab t = true → isShot t v = true → (∀ j : Int, k = .int j → j < 1) → E "InvalidNumber") ∧
  (∀ a b x y p q j, t = .tuple [.int a, .int b] → v = .tuple [.int x, .int y, .int p, .int q] → k = .int j → isTab t = true → isShot t v = true → 1 ≤ j → szD t ∧ szD v ∧ sz 1000 j ∧ Q (.va (.tuple [.tuple [.int (a * j), .int (b * j)], .tuple [.int (x * j), .int (y * j), .int p, .int q]])))
theorem len_scaled : ∀ ds Q E, D_scaled ds Q E → ds.length = 3 := by
  rintro _ Q E ⟨t, v, k, rfl, _⟩
  rfl
theorem rd_scaled : ∀ ds Q E, D_scaled ds Q E → m_scaled (fun c _ => E c) (endP Q) (slots0 9 ds) := by
  rintro _ Q E ⟨t, v, k, rfl, q1, q2, q3, q4⟩
  unfold m_scaled
  simp only [DL.mSeq, DL.mAsg, DL.mAsgR, DL.mAsgM, DL.mrs, DL.ssets, DL.mIf, DL.mRet, DL.mRetN, DL.mrOf, DL.mrLst, DL.mrCat, DL.mrCall, DL.mDrop, DL.mNext, DL.mBreak, DL.mCont, DL.mC, DL.mVar, DL.mOp2, DL.mOp1, DL.mAnd, DL.mOr, DL.mNot, DL.mIfE, DL.mChain, DL.mNil, DL.mCons, DL.mTup, DL.mLst, DL.mCallB, DL.mDict0, DL.mPart, DL.mNoPart, DL.mSl, DL.mCall, DL.mCallK, DL.mCallW, DL.mLenScr, DL.mWell, DL.mT, DL.mTAnd, DL.mTOr, DL.mTNot, DL.mTYes, DL.mgName, DL.mgNil_n, DL.mgCons_c, DL.mgTup_t, DL.mgTup_l, DL.miSeq, DL.miRng1, DL.miRng2, DL.mRaise, DL.mApp, DL.mFor, DL.mLc, DL.mrLc, DL.sget, DL.sset, DL.slots0, DL.slotsW, DL.endP, DL.endW, DL.endL, DL.wF, DL.fz_va, DL.fz_own, List.length_cons, List.length_nil, List.map_cons, List.map_nil, List.replicate_succ, List.replicate_zero, Nat.reduceAdd, Nat.reduceSub, Nat.reduceLeDiff, List.cons_append, List.nil_append, Nat.zero_add, Nat.add_zero, Nat.sub_self, Option.some.injEq, PyData.bool.injEq, PyData.int.injEq, PyData.tuple.injEq, PyData.list.injEq, PyData.str.injEq, List.cons.injEq, DL.S.va.injEq, DL.S.own.injEq, DL.S.well.injEq, DL.S.scr.injEq, and_true, true_and, exists_eq_left', exists_eq_left, exists_eq_right, exists_eq_right', exists_and_left, exists_and_right, exists_eq, exists_eq', reduceCtorEq, false_and, and_false, exists_const, if_true, if_false, Bool.false_eq_true, reduceIte, Bool.not_true, Bool.not_false, DL.bIsi, List.any_cons, List.any_nil, Bool.or_false, Bool.or_true, Bool.false_or, Bool.true_or, DL.isK, DL.opAdd_i, DL.opSub_i, DL.opLt_i, DL.opLe_i, DL.opGt_i, DL.opGe_i, DL.opEq_int, DL.opNe_int, DL.opEq_b, DL.opNe_b, DL.opEq_nn, beq_self_eq_true, DL.opEq_str, DL.opNe_str, DL.opIsN_n, DL.opNotN_n, DL.isN, DL.opIsB_b, DL.opNotB_b, DL.opNeg_i, DL.bAbs_i, DL.bMax_i, DL.bMin_i, DL.bInt_i, DL.bGcd_i, DL.bLen_l, DL.bLen_t, DL.opAdd_t, DL.opAdd_l, DL.opIx_l, DL.opIx_t, DL.opSl_t, DL.opSl_l, DL.opRev_t, DL.opRev_l, DL.bList_l, DL.bList_t, DL.bTup_l, DL.bTup_t, DL.atI0, DL.atI1, DL.atI2, DL.atI3, DL.items_t, DL.items_l]
  refine ⟨t, v, rfl, q1, q2, fun h1 h2 => ⟨⟨_, rfl⟩, k, rfl, _, rfl, _, rfl, ?_⟩⟩
  obtain ⟨a, b, x, y, p, r, rfl, rfl, -⟩ := shot_inv h2
  cases k with
  | int j =>
    simp only [isInt]
    simp only [DL.mSeq, DL.mAsg, DL.mAsgR, DL.mAsgM, DL.mrs, DL.ssets, DL.mIf, DL.mRet, DL.mRetN, DL.mrOf, DL.mrLst, DL.mrCat, DL.mrCall, DL.mDrop, DL.mNext, DL.mBreak, DL.mCont, DL.mC, DL.mVar, DL.mOp2, DL.mOp1, DL.mAnd, DL.mOr, DL.mNot, DL.mIfE, DL.mChain, DL.mNil, DL.mCons, DL.mTup, DL.mLst, DL.mCallB, DL.mDict0, DL.mPart, DL.mNoPart, DL.mSl, DL.mCall, DL.mCallK, DL.mCallW, DL.mLenScr, DL.mWell, DL.mT, DL.mTAnd, DL.mTOr, DL.mTNot, DL.mTYes, DL.mgName, DL.mgNil_n, DL.mgCons_c, DL.mgTup_t, DL.mgTup_l, DL.miSeq, DL.miRng1, DL.miRng2, DL.mRaise, DL.mApp, DL.mFor, DL.mLc, DL.mrLc, DL.sget, DL.sset, DL.slots0, DL.slotsW, DL.endP, DL.endW, DL.endL, DL.wF, DL.fz_va, DL.fz_own, List.length_cons, List.length_nil, List.map_cons, List.map_nil, List.replicate_succ, List.replicate_zero, Nat.reduceAdd, Nat.reduceSub, Nat.reduceLeDiff, List.cons_append, List.nil_append, Nat.zero_add, Nat.add_zero, Nat.sub_self, Option.some.injEq, PyData.bool.injEq, PyData.int.injEq, PyData.tuple.injEq, PyData.list.injEq, PyData.str.injEq, List.cons.injEq, DL.S.va.injEq, DL.S.own.injEq, DL.S.well.injEq, DL.S.scr.injEq, and_true, true_and, exists_eq_left', exists_eq_left, exists_eq_right, exists_eq_right', exists_and_left, exists_and_right, exists_eq, exists_eq', reduceCtorEq, false_and, and_false, exists_const, if_true, if_false, Bool.false_eq_true, reduceIte, Bool.not_true, Bool.not_false, DL.bIsi, List.any_cons, List.any_nil, Bool.or_false, Bool.or_true, Bool.false_or, Bool.true_or, DL.isK, DL.opAdd_i, DL.opSub_i, DL.opLt_i, DL.opLe_i, DL.opGt_i, DL.opGe_i, DL.opEq_int, DL.opNe_int, DL.opEq_b, DL.opNe_b, DL.opEq_nn, beq_self_eq_true, DL.opEq_str, DL.opNe_str, DL.opIsN_n, DL.opNotN_n, DL.isN, DL.opIsB_b, DL.opNotB_b, DL.opNeg_i, DL.bAbs_i, DL.bMax_i, DL.bMin_i, DL.bInt_i, DL.bGcd_i, DL.bLen_l, DL.bLen_t, DL.opAdd_t, DL.opAdd_l, DL.opIx_l, DL.opIx_t, DL.opSl_t, DL.opSl_l, DL.opRev_t, DL.opRev_l, DL.bList_l, DL.bList_t, DL.bTup_l, DL.bTup_t, DL.atI0, DL.atI1, DL.atI2, DL.atI3, DL.items_t, DL.items_l]
    by_cases hj : j < 1
    · rw [if_pos (decide_eq_true hj)]
      exact q3 h1 h2 fun j' e => by cases e; exact hj
    · rw [if_neg (by simpa using hj)]
      obtain ⟨z1, z2, z3, q⟩ := q4 a b x y p r j rfl rfl rfl h1 h2 (by omega)
      exact ⟨_, opMul_ok z1.1 z3 (by decide), _, opMul_ok z1.2 z3 (by decide), _, opMul_ok z2.1 z3 (by decide), _, opMul_ok z2.2.1 z3 (by decide), q⟩
  | _ => exact q3 h1 h2 fun j' e => nomatch e
section
variable {P : Program} {w : World} {K : PySem.W.Frag} {mg : Str → Option Value} {base : Heap} {CN : String → Option Addr}
theorem ok_scaled {f : Addr} {fd : FuncData} (F : Fun K "scaled" "scaled" s_scaled f fd) (g : G K mg CN) (c_check_shot : CalP P w K mg base CN 6 "check_shot" D_check_shot) (c_is_whole : CalP P w K mg base CN 1 "is_whole" D_is_whole) : FnG P w K mg base 7 f fd ["table", "shot", "many"] (spP K CN D_scaled) := by
  obtain ⟨e_InvalidNumber, n_InvalidNumber, t_InvalidNumber⟩ := g.x_InvalidNumber
  have sc := sc_scaled
  exact fun_okP (m := m_scaled) F sc (by decide) len_scaled (fun cdv A outer s H E C W hw hr tk =>
    (pds_cons (pds_drop (pd_call c_check_shot hr (by decide) tk (pda_cons (dv 0) (pda_cons (dv 1) pda_nil))))
    (pds_cons (pds_if (pdt_ofw (pdw_or (pdt_not (pdt_val (pd_call c_is_whole hr (by decide) tk (pda_cons (dv 2) pda_nil)))) (pdw_or1 (pdt_cmp op_lt rl_cmpI (dv 2) pd_int (nomark _))))) (pds_one (pds_raise rfl tk t_InvalidNumber n_InvalidNumber)) pds_nil)
    (pds_cons (pds_asg (ps_asg (dv 0) (pdg_tup rfl (gcons (dg 3 sc.nd) (gcons (dg 4 sc.nd) pdgs_nil)))))
    (pds_cons (pds_asg (ps_asg (dv 1) (pdg_tup rfl (gcons (dg 5 sc.nd) (gcons (dg 6 sc.nd) (gcons (dg 7 sc.nd) (gcons (dg 8 sc.nd) pdgs_nil)))))))
    (pds_one (pds_ret (pdr_of (pd_tup (pda_cons (pd_tup (pda_cons (pd_op or_mul rl_mul (dv 3) (dv 2)) (pda_cons (pd_op or_mul rl_mul (dv 4) (dv 2)) pda_nil))) (pda_cons (pd_tup (pda_cons (pd_op or_mul rl_mul (dv 5) (dv 2)) (pda_cons (pd_op or_mul rl_mul (dv 6) (dv 2)) (pda_cons (dv 7) (pda_cons (dv 8) pda_nil))))) pda_nil))))))))))) rd_scaled
end
end LW
namespace LW
open PySem PySem.Spec PyProof.Rows L2 DL
def m_crossed (W : WD) : MS :=
  mSeq (mDrop (mCall D_check_shot W (mCons (mVar 0) (mCons (mVar 1) (mNil)))))
  (mSeq (mAsg (mVar 0) (mgTup 2 (mgCons (mgName 2) (mgCons (mgName 3) (mgNil)))))
  (mSeq (mAsg (mVar 1) (mgTup 4 (mgCons (mgName 4) (mgCons (mgName 5) (mgCons (mgName 6) (mgCons (mgName 7) (mgNil)))))))
  (mRet (mrOf (mTup (mCons (mTup (mCons (mVar 3) (mCons (mVar 2) (mNil)))) (mCons (mTup (mCons (mVar 5) (mCons (mVar 4) (mCons (mVar 7) (mCons (mVar 6) (mNil)))))) (mNil))))))))
def D_crossed : PSpec := fun ds Q E => ∃ t v, ds = [t, v] ∧ (isTab t = false → E "InvalidTable") ∧ (isTab t = true → isShot t v = false → E "InvalidShot") ∧
  (∀ a b x y p q, t = .tuple [.int a, .int b] → v = .tuple [.int x, .int y, .int p, .int q] → isTab t = true → isShot t v = true → Q (.va (.tuple [.tuple [.int b, .int a], .tuple [.int y, .int x, .int q, .int p]])))
theorem len_crossed : ∀ ds Q E, D_crossed ds Q E → ds.length = 2 := by
  rintro _ Q E ⟨t, v, rfl, _⟩
  rfl
theorem rd_crossed : ∀ ds Q E, D_crossed ds Q E → m_crossed (fun c _ => E c) (endP Q) (slots0 8 ds) := by
  rintro _ Q E ⟨t, v, rfl, q1, q2, q3⟩
  unfold m_crossed
  simp only [DL.mSeq, DL.mAsg, DL.mAsgR, DL.mAsgM, DL.mrs, DL.ssets, DL.mIf, DL.mRet, DL.mRetN, DL.mrOf, DL.mrLst, DL.mrCat, DL.mrCall, DL.mDrop, DL.mNext, DL.mBreak, DL.mCont, DL.mC, DL.mVar, DL.mOp2, DL.mOp1, DL.mAnd, DL.mOr, DL.mNot, DL.mIfE, DL.mChain, DL.mNil, DL.mCons, DL.mTup, DL.mLst, DL.mCallB, DL.mDict0, DL.mPart, DL.mNoPart, DL.mSl, DL.mCall, DL.mCallK, DL.mCallW, DL.mLenScr, DL.mWell, DL.mT, DL.mTAnd, DL.mTOr, DL.mTNot, DL.mTYes, DL.mgName, DL.mgNil_n, DL.mgCons_c, DL.mgTup_t, DL.mgTup_l, DL.miSeq, DL.miRng1, DL.miRng2, DL.mRaise, DL.mApp, DL.mFor, DL.mLc, DL.mrLc, DL.sget, DL.sset, DL.slots0, DL.slotsW, DL.endP, DL.endW, DL.endL, DL.wF, DL.fz_va, DL.fz_own, List.length_cons, List.length_nil, List.map_cons, List.map_nil, List.replicate_succ, List.replicate_zero, Nat.reduceAdd, Nat.reduceSub, Nat.reduceLeDiff, List.cons_append, List.nil_append, Nat.zero_add, Nat.add_zero, Nat.sub_self, Option.some.injEq, PyData.bool.injEq, PyData.int.injEq, PyData.tuple.injEq, PyData.list.injEq, PyData.str.injEq, List.cons.injEq, DL.S.va.injEq, DL.S.own.injEq, DL.S.well.injEq, DL.S.scr.injEq, and_true, true_and, exists_eq_left', exists_eq_left, exists_eq_right, exists_eq_right', exists_and_left, exists_and_right, exists_eq, exists_eq', reduceCtorEq, false_and, and_false, exists_const, if_true, if_false, Bool.false_eq_true, reduceIte, Bool.not_true, Bool.not_false, DL.bIsi, List.any_cons, List.any_nil, Bool.or_false, Bool.or_true, Bool.false_or, Bool.true_or, DL.isK, DL.opAdd_i, DL.opSub_i, DL.opLt_i, DL.opLe_i, DL.opGt_i, DL.opGe_i, DL.opEq_int, DL.opNe_int, DL.opEq_b, DL.opNe_b, DL.opEq_nn, beq_self_eq_true, DL.opEq_str, DL.opNe_str, DL.opIsN_n, DL.opNotN_n, DL.isN, DL.opIsB_b, DL.opNotB_b, DL.opNeg_i, DL.bAbs_i, DL.bMax_i, DL.bMin_i, DL.bInt_i, DL.bGcd_i, DL.bLen_l, DL.bLen_t, DL.opAdd_t, DL.opAdd_l, DL.opIx_l, DL.opIx_t, DL.opSl_t, DL.opSl_l, DL.opRev_t, DL.opRev_l, DL.bList_l, DL.bList_t, DL.bTup_l, DL.bTup_t, DL.atI0, DL.atI1, DL.atI2, DL.atI3, DL.items_t, DL.items_l]
  refine ⟨t, v, rfl, q1, q2, fun h1 h2 => ⟨⟨_, rfl⟩, ?_⟩⟩
  obtain ⟨a, b, x, y, p, r, rfl, rfl, -⟩ := shot_inv h2
  simp only [DL.mSeq, DL.mAsg, DL.mAsgR, DL.mAsgM, DL.mrs, DL.ssets, DL.mIf, DL.mRet, DL.mRetN, DL.mrOf, DL.mrLst, DL.mrCat, DL.mrCall, DL.mDrop, DL.mNext, DL.mBreak, DL.mCont, DL.mC, DL.mVar, DL.mOp2, DL.mOp1, DL.mAnd, DL.mOr, DL.mNot, DL.mIfE, DL.mChain, DL.mNil, DL.mCons, DL.mTup, DL.mLst, DL.mCallB, DL.mDict0, DL.mPart, DL.mNoPart, DL.mSl, DL.mCall, DL.mCallK, DL.mCallW, DL.mLenScr, DL.mWell, DL.mT, DL.mTAnd, DL.mTOr, DL.mTNot, DL.mTYes, DL.mgName, DL.mgNil_n, DL.mgCons_c, DL.mgTup_t, DL.mgTup_l, DL.miSeq, DL.miRng1, DL.miRng2, DL.mRaise, DL.mApp, DL.mFor, DL.mLc, DL.mrLc, DL.sget, DL.sset, DL.slots0, DL.slotsW, DL.endP, DL.endW, DL.endL, DL.wF, DL.fz_va, DL.fz_own, List.length_cons, List.length_nil, List.map_cons, List.map_nil, List.replicate_succ, List.replicate_zero, Nat.reduceAdd, Nat.reduceSub, Nat.reduceLeDiff, List.cons_append, List.nil_append, Nat.zero_add, Nat.add_zero, Nat.sub_self, Option.some.injEq, PyData.bool.injEq, PyData.int.injEq, PyData.tuple.injEq, PyData.list.injEq, PyData.str.injEq, List.cons.injEq, DL.S.va.injEq, DL.S.own.injEq, DL.S.well.injEq, DL.S.scr.injEq, and_true, true_and, exists_eq_left', exists_eq_left, exists_eq_right, exists_eq_right', exists_and_left, exists_and_right, exists_eq, exists_eq', reduceCtorEq, false_and, and_false, exists_const, if_true, if_false, Bool.false_eq_true, reduceIte, Bool.not_true, Bool.not_false, DL.bIsi, List.any_cons, List.any_nil, Bool.or_false, Bool.or_true, Bool.false_or, Bool.true_or, DL.isK, DL.opAdd_i, DL.opSub_i, DL.opLt_i, DL.opLe_i, DL.opGt_i, DL.opGe_i, DL.opEq_int, DL.opNe_int, DL.opEq_b, DL.opNe_b, DL.opEq_nn, beq_self_eq_true, DL.opEq_str, DL.opNe_str, DL.opIsN_n, DL.opNotN_n, DL.isN, DL.opIsB_b, DL.opNotB_b, DL.opNeg_i, DL.bAbs_i, DL.bMax_i, DL.bMin_i, DL.bInt_i, DL.bGcd_i, DL.bLen_l, DL.bLen_t, DL.opAdd_t, DL.opAdd_l, DL.opIx_l, DL.opIx_t, DL.opSl_t, DL.opSl_l, DL.opRev_t, DL.opRev_l, DL.bList_l, DL.bList_t, DL.bTup_l, DL.bTup_t, DL.atI0, DL.atI1, DL.atI2, DL.atI3, DL.items_t, DL.items_l]
  exact q3 a b x y p r rfl rfl h1 h2
section
variable {P : Program} {w : World} {K : PySem.W.Frag} {mg : Str → Option Value} {base : Heap} {CN : String → Option Addr}
theorem ok_crossed {f : Addr} {fd : FuncData} (F : Fun K "crossed" "crossed" s_crossed f fd) (g : G K mg CN) (c_check_shot : CalP P w K mg base CN 6 "check_shot" D_check_shot) : FnG P w K mg base 7 f fd ["table", "shot"] (spP K CN D_crossed) := by
  have sc := sc_crossed
  exact fun_okP (m := m_crossed) F sc (by decide) len_crossed (fun cdv A outer s H E C W hw hr tk =>
    (pds_cons (pds_drop (pd_call c_check_shot hr (by decide) tk (pda_cons (dv 0) (pda_cons (dv 1) pda_nil))))
    (pds_cons (pds_asg (ps_asg (dv 0) (pdg_tup rfl (gcons (dg 2 sc.nd) (gcons (dg 3 sc.nd) pdgs_nil)))))
    (pds_cons (pds_asg (ps_asg (dv 1) (pdg_tup rfl (gcons (dg 4 sc.nd) (gcons (dg 5 sc.nd) (gcons (dg 6 sc.nd) (gcons (dg 7 sc.nd) pdgs_nil)))))))
    (pds_one (pds_ret (pdr_of (pd_tup (pda_cons (pd_tup (pda_cons (dv 3) (pda_cons (dv 2) pda_nil))) (pda_cons (pd_tup (pda_cons (dv 5) (pda_cons (dv 4) (pda_cons (dv 7) (pda_cons (dv 6) pda_nil))))) pda_nil)))))))))) rd_crossed
end
end LW
namespace LW
open PySem PySem.Spec PyProof.Rows L2 DL
def m__law_desk : MS :=
  mSeq (mAsg (mOp2 opAdd (mC (.int 1)) (mCallW dDraw 0 (mCons (mVar 1) (mNil)))) (mgName 2))
  (mSeq (mAsg (mOp2 opIx (mLst (mCons (mOp2 opAdd (mC (.int 1)) (mCallW dDraw 0 (mCons (mVar 1) (mNil)))) (mCons (mVar 2) (mCons (mOp2 opMul (mVar 2) (mC (.int 2))) (mCons (mOp2 opAdd (mC (.int 1)) (mCallW dDraw 0 (mCons (mC (.int 4)) (mNil)))) (mNil)))))) (mCallW dDraw 0 (mCons (mC (.int 4)) (mNil)))) (mgName 3))
  (mRet (mrOf (mTup (mCons (mVar 2) (mCons (mVar 3) (mNil)))))))
theorem log_wide {m : Int} (h1 : 1 ≤ m) (h : m < 2 ^ 200) : m.natAbs.log2 < 9000 := by
  refine (Nat.log2_lt (by omega)).mpr ?_
  have : m.natAbs < 2 ^ 200 := by omega
  exact Nat.lt_of_lt_of_le this (Nat.pow_le_pow_right (by decide) (by decide))
theorem dr {n : Nat} {m : Int} {Q : S → Nat → Prop} (h0 : 1 ≤ n) (h1 : 1 ≤ m) (h2 : m < 2 ^ 200) (k : ∀ r : Int, 0 ≤ r → r < m → Q (.va (.int r)) (n - 1)) : dDraw n [.int m] Q := ⟨m, rfl, h0, h1, log_wide h1 h2, k⟩
theorem small2 {a b : Int} (ha : a.natAbs < 2 ^ 200) (hb : b.natAbs < 2 ^ 200) : small a b = true := by
  have lg : ∀ z : Int, z.natAbs < 2 ^ 200 → z.natAbs.log2 < 200 := fun z hz => by
    by_cases h0 : z.natAbs = 0
    · rw [h0]; decide
    · exact (Nat.log2_lt h0).mpr hz
  unfold small
  have := lg a ha
  have := lg b hb
  exact decide_eq_true (by omega)
def D__law_desk : WSpec := fun n ds Q => ∃ m, ds = [.int m] ∧ 4 ≤ n ∧ 1 ≤ m ∧ m < 2 ^ 150 ∧ ∀ a b n', n ≤ n' + 4 → 1 ≤ a → a ≤ m + 1 → 1 ≤ b → b ≤ 2 * m + 5 → Q (.va (.tuple [.int a, .int b])) n'
theorem len__law_desk : ∀ n ds Q, D__law_desk n ds Q → ds.length + 1 = 2 := by
  rintro n _ Q ⟨d, rfl, _⟩
  rfl
theorem rd__law_desk : ∀ n ds Q, D__law_desk n ds Q → m__law_desk (endW Q) (slotsW 4 n ds) := by
  rintro n _ Q ⟨m, rfl, hn, h1, h2, q⟩
  unfold m__law_desk
  simp only [DL.mSeq, DL.mAsg, DL.mAsgR, DL.mAsgM, DL.mrs, DL.ssets, DL.mIf, DL.mRet, DL.mRetN, DL.mrOf, DL.mrLst, DL.mrCat, DL.mrCall, DL.mDrop, DL.mNext, DL.mBreak, DL.mCont, DL.mC, DL.mVar, DL.mOp2, DL.mOp1, DL.mAnd, DL.mOr, DL.mNot, DL.mIfE, DL.mChain, DL.mNil, DL.mCons, DL.mTup, DL.mLst, DL.mCallB, DL.mDict0, DL.mPart, DL.mNoPart, DL.mSl, DL.mCall, DL.mCallK, DL.mCallW, DL.mLenScr, DL.mWell, DL.mT, DL.mTAnd, DL.mTOr, DL.mTNot, DL.mTYes, DL.mgName, DL.mgNil, DL.mgCons, DL.mgTup, DL.miSeq, DL.miRng1, DL.miRng2, DL.mRaise, DL.mApp, DL.mFor, DL.mLc, DL.mrLc, DL.sget, DL.sset, DL.slots0, DL.slotsW, DL.endP, DL.endW, DL.endL, DL.wF, DL.fz_va, DL.fz_own, List.length_cons, List.length_nil, List.map_cons, List.map_nil, List.replicate_succ, List.replicate_zero, Nat.reduceAdd, Nat.reduceSub, Nat.reduceLeDiff, List.cons_append, List.nil_append, Nat.zero_add, Nat.add_zero, Nat.sub_self, Option.some.injEq, PyData.bool.injEq, PyData.int.injEq, PyData.tuple.injEq, PyData.list.injEq, PyData.str.injEq, List.cons.injEq, DL.S.va.injEq, DL.S.own.injEq, DL.S.well.injEq, DL.S.scr.injEq, and_true, true_and, exists_eq_left', exists_eq_left, exists_eq_right, exists_eq_right', exists_and_left, exists_and_right, exists_eq, exists_eq', reduceCtorEq, false_and, and_false, exists_const, if_true, if_false, Bool.false_eq_true, reduceIte, Bool.not_true, Bool.not_false, DL.bIsi, List.any_cons, List.any_nil, Bool.or_false, Bool.or_true, Bool.false_or, Bool.true_or, DL.isK, DL.opAdd_i, DL.opSub_i, DL.opMul_i, DL.opMod_i, DL.opFdiv_i, DL.opPow_i, DL.opLt_i, DL.opLe_i, DL.opGt_i, DL.opGe_i, DL.opEq_int, DL.opNe_int, DL.opEq_str, DL.opNe_str, DL.opIsN_n, DL.opNotN_n, DL.isN, DL.opIsB_b, DL.opNotB_b, DL.opNeg_i, DL.bAbs_i, DL.bMax_i, DL.bMin_i, DL.bInt_i, DL.bGcd_i, DL.bLen_l, DL.bLen_t, DL.opAdd_t, DL.opAdd_l, DL.opIx_l, DL.opIx_t, DL.opSl_t, DL.opSl_l, DL.opRev_t, DL.opRev_l, DL.bList_l, DL.bList_t, DL.bTup_l, DL.bTup_t, DL.atI0, DL.atI1, DL.atI2, DL.atI3]
  refine dr (by omega) h1 (by omega) fun r1 p1 p2 => ?_
  simp only [DL.mSeq, DL.mAsg, DL.mAsgR, DL.mAsgM, DL.mrs, DL.ssets, DL.mIf, DL.mRet, DL.mRetN, DL.mrOf, DL.mrLst, DL.mrCat, DL.mrCall, DL.mDrop, DL.mNext, DL.mBreak, DL.mCont, DL.mC, DL.mVar, DL.mOp2, DL.mOp1, DL.mAnd, DL.mOr, DL.mNot, DL.mIfE, DL.mChain, DL.mNil, DL.mCons, DL.mTup, DL.mLst, DL.mCallB, DL.mDict0, DL.mPart, DL.mNoPart, DL.mSl, DL.mCall, DL.mCallK, DL.mCallW, DL.mLenScr, DL.mWell, DL.mT, DL.mTAnd, DL.mTOr, DL.mTNot, DL.mTYes, DL.mgName, DL.mgNil, DL.mgCons, DL.mgTup, DL.miSeq, DL.miRng1, DL.miRng2, DL.mRaise, DL.mApp, DL.mFor, DL.mLc, DL.mrLc, DL.sget, DL.sset, DL.slots0, DL.slotsW, DL.endP, DL.endW, DL.endL, DL.wF, DL.fz_va, DL.fz_own, List.length_cons, List.length_nil, List.map_cons, List.map_nil, List.replicate_succ, List.replicate_zero, Nat.reduceAdd, Nat.reduceSub, Nat.reduceLeDiff, List.cons_append, List.nil_append, Nat.zero_add, Nat.add_zero, Nat.sub_self, Option.some.injEq, PyData.bool.injEq, PyData.int.injEq, PyData.tuple.injEq, PyData.list.injEq, PyData.str.injEq, List.cons.injEq, DL.S.va.injEq, DL.S.own.injEq, DL.S.well.injEq, DL.S.scr.injEq, and_true, true_and, exists_eq_left', exists_eq_left, exists_eq_right, exists_eq_right', exists_and_left, exists_and_right, exists_eq, exists_eq', reduceCtorEq, false_and, and_false, exists_const, if_true, if_false, Bool.false_eq_true, reduceIte, Bool.not_true, Bool.not_false, DL.bIsi, List.any_cons, List.any_nil, Bool.or_false, Bool.or_true, Bool.false_or, Bool.true_or, DL.isK, DL.opAdd_i, DL.opSub_i, DL.opMul_i, DL.opMod_i, DL.opFdiv_i, DL.opPow_i, DL.opLt_i, DL.opLe_i, DL.opGt_i, DL.opGe_i, DL.opEq_int, DL.opNe_int, DL.opEq_str, DL.opNe_str, DL.opIsN_n, DL.opNotN_n, DL.isN, DL.opIsB_b, DL.opNotB_b, DL.opNeg_i, DL.bAbs_i, DL.bMax_i, DL.bMin_i, DL.bInt_i, DL.bGcd_i, DL.bLen_l, DL.bLen_t, DL.opAdd_t, DL.opAdd_l, DL.opIx_l, DL.opIx_t, DL.opSl_t, DL.opSl_l, DL.opRev_t, DL.opRev_l, DL.bList_l, DL.bList_t, DL.bTup_l, DL.bTup_t, DL.atI0, DL.atI1, DL.atI2, DL.atI3]
  refine dr (by omega) h1 (by omega) fun r2 p3 p4 => ?_
  simp only [DL.mSeq, DL.mAsg, DL.mAsgR, DL.mAsgM, DL.mrs, DL.ssets, DL.mIf, DL.mRet, DL.mRetN, DL.mrOf, DL.mrLst, DL.mrCat, DL.mrCall, DL.mDrop, DL.mNext, DL.mBreak, DL.mCont, DL.mC, DL.mVar, DL.mOp2, DL.mOp1, DL.mAnd, DL.mOr, DL.mNot, DL.mIfE, DL.mChain, DL.mNil, DL.mCons, DL.mTup, DL.mLst, DL.mCallB, DL.mDict0, DL.mPart, DL.mNoPart, DL.mSl, DL.mCall, DL.mCallK, DL.mCallW, DL.mLenScr, DL.mWell, DL.mT, DL.mTAnd, DL.mTOr, DL.mTNot, DL.mTYes, DL.mgName, DL.mgNil, DL.mgCons, DL.mgTup, DL.miSeq, DL.miRng1, DL.miRng2, DL.mRaise, DL.mApp, DL.mFor, DL.mLc, DL.mrLc, DL.sget, DL.sset, DL.slots0, DL.slotsW, DL.endP, DL.endW, DL.endL, DL.wF, DL.fz_va, DL.fz_own, List.length_cons, List.length_nil, List.map_cons, List.map_nil, List.replicate_succ, List.replicate_zero, Nat.reduceAdd, Nat.reduceSub, Nat.reduceLeDiff, List.cons_append, List.nil_append, Nat.zero_add, Nat.add_zero, Nat.sub_self, Option.some.injEq, PyData.bool.injEq, PyData.int.injEq, PyData.tuple.injEq, PyData.list.injEq, PyData.str.injEq, List.cons.injEq, DL.S.va.injEq, DL.S.own.injEq, DL.S.well.injEq, DL.S.scr.injEq, and_true, true_and, exists_eq_left', exists_eq_left, exists_eq_right, exists_eq_right', exists_and_left, exists_and_right, exists_eq, exists_eq', reduceCtorEq, false_and, and_false, exists_const, if_true, if_false, Bool.false_eq_true, reduceIte, Bool.not_true, Bool.not_false, DL.bIsi, List.any_cons, List.any_nil, Bool.or_false, Bool.or_true, Bool.false_or, Bool.true_or, DL.isK, DL.opAdd_i, DL.opSub_i, DL.opMul_i, DL.opMod_i, DL.opFdiv_i, DL.opPow_i, DL.opLt_i, DL.opLe_i, DL.opGt_i, DL.opGe_i, DL.opEq_int, DL.opNe_int, DL.opEq_str, DL.opNe_str, DL.opIsN_n, DL.opNotN_n, DL.isN, DL.opIsB_b, DL.opNotB_b, DL.opNeg_i, DL.bAbs_i, DL.bMax_i, DL.bMin_i, DL.bInt_i, DL.bGcd_i, DL.bLen_l, DL.bLen_t, DL.opAdd_t, DL.opAdd_l, DL.opIx_l, DL.opIx_t, DL.opSl_t, DL.opSl_l, DL.opRev_t, DL.opRev_l, DL.bList_l, DL.bList_t, DL.bTup_l, DL.bTup_t, DL.atI0, DL.atI1, DL.atI2, DL.atI3]
  rw [if_pos (small2 (by omega) (by omega))]
  simp only [DL.mSeq, DL.mAsg, DL.mAsgR, DL.mAsgM, DL.mrs, DL.ssets, DL.mIf, DL.mRet, DL.mRetN, DL.mrOf, DL.mrLst, DL.mrCat, DL.mrCall, DL.mDrop, DL.mNext, DL.mBreak, DL.mCont, DL.mC, DL.mVar, DL.mOp2, DL.mOp1, DL.mAnd, DL.mOr, DL.mNot, DL.mIfE, DL.mChain, DL.mNil, DL.mCons, DL.mTup, DL.mLst, DL.mCallB, DL.mDict0, DL.mPart, DL.mNoPart, DL.mSl, DL.mCall, DL.mCallK, DL.mCallW, DL.mLenScr, DL.mWell, DL.mT, DL.mTAnd, DL.mTOr, DL.mTNot, DL.mTYes, DL.mgName, DL.mgNil, DL.mgCons, DL.mgTup, DL.miSeq, DL.miRng1, DL.miRng2, DL.mRaise, DL.mApp, DL.mFor, DL.mLc, DL.mrLc, DL.sget, DL.sset, DL.slots0, DL.slotsW, DL.endP, DL.endW, DL.endL, DL.wF, DL.fz_va, DL.fz_own, List.length_cons, List.length_nil, List.map_cons, List.map_nil, List.replicate_succ, List.replicate_zero, Nat.reduceAdd, Nat.reduceSub, Nat.reduceLeDiff, List.cons_append, List.nil_append, Nat.zero_add, Nat.add_zero, Nat.sub_self, Option.some.injEq, PyData.bool.injEq, PyData.int.injEq, PyData.tuple.injEq, PyData.list.injEq, PyData.str.injEq, List.cons.injEq, DL.S.va.injEq, DL.S.own.injEq, DL.S.well.injEq, DL.S.scr.injEq, and_true, true_and, exists_eq_left', exists_eq_left, exists_eq_right, exists_eq_right', exists_and_left, exists_and_right, exists_eq, exists_eq', reduceCtorEq, false_and, and_false, exists_const, if_true, if_false, Bool.false_eq_true, reduceIte, Bool.not_true, Bool.not_false, DL.bIsi, List.any_cons, List.any_nil, Bool.or_false, Bool.or_true, Bool.false_or, Bool.true_or, DL.isK, DL.opAdd_i, DL.opSub_i, DL.opMul_i, DL.opMod_i, DL.opFdiv_i, DL.opPow_i, DL.opLt_i, DL.opLe_i, DL.opGt_i, DL.opGe_i, DL.opEq_int, DL.opNe_int, DL.opEq_str, DL.opNe_str, DL.opIsN_n, DL.opNotN_n, DL.isN, DL.opIsB_b, DL.opNotB_b, DL.opNeg_i, DL.bAbs_i, DL.bMax_i, DL.bMin_i, DL.bInt_i, DL.bGcd_i, DL.bLen_l, DL.bLen_t, DL.opAdd_t, DL.opAdd_l, DL.opIx_l, DL.opIx_t, DL.opSl_t, DL.opSl_l, DL.opRev_t, DL.opRev_l, DL.bList_l, DL.bList_t, DL.bTup_l, DL.bTup_t, DL.atI0, DL.atI1, DL.atI2, DL.atI3]
  refine dr (by omega) (by decide) (by decide) fun r3 p5 p6 => ?_
  simp only [DL.mSeq, DL.mAsg, DL.mAsgR, DL.mAsgM, DL.mrs, DL.ssets, DL.mIf, DL.mRet, DL.mRetN, DL.mrOf, DL.mrLst, DL.mrCat, DL.mrCall, DL.mDrop, DL.mNext, DL.mBreak, DL.mCont, DL.mC, DL.mVar, DL.mOp2, DL.mOp1, DL.mAnd, DL.mOr, DL.mNot, DL.mIfE, DL.mChain, DL.mNil, DL.mCons, DL.mTup, DL.mLst, DL.mCallB, DL.mDict0, DL.mPart, DL.mNoPart, DL.mSl, DL.mCall, DL.mCallK, DL.mCallW, DL.mLenScr, DL.mWell, DL.mT, DL.mTAnd, DL.mTOr, DL.mTNot, DL.mTYes, DL.mgName, DL.mgNil, DL.mgCons, DL.mgTup, DL.miSeq, DL.miRng1, DL.miRng2, DL.mRaise, DL.mApp, DL.mFor, DL.mLc, DL.mrLc, DL.sget, DL.sset, DL.slots0, DL.slotsW, DL.endP, DL.endW, DL.endL, DL.wF, DL.fz_va, DL.fz_own, List.length_cons, List.length_nil, List.map_cons, List.map_nil, List.replicate_succ, List.replicate_zero, Nat.reduceAdd, Nat.reduceSub, Nat.reduceLeDiff, List.cons_append, List.nil_append, Nat.zero_add, Nat.add_zero, Nat.sub_self, Option.some.injEq, PyData.bool.injEq, PyData.int.injEq, PyData.tuple.injEq, PyData.list.injEq, PyData.str.injEq, List.cons.injEq, DL.S.va.injEq, DL.S.own.injEq, DL.S.well.injEq, DL.S.scr.injEq, and_true, true_and, exists_eq_left', exists_eq_left, exists_eq_right, exists_eq_right', exists_and_left, exists_and_right, exists_eq, exists_eq', reduceCtorEq, false_and, and_false, exists_const, if_true, if_false, Bool.false_eq_true, reduceIte, Bool.not_true, Bool.not_false, DL.bIsi, List.any_cons, List.any_nil, Bool.or_false, Bool.or_true, Bool.false_or, Bool.true_or, DL.isK, DL.opAdd_i, DL.opSub_i, DL.opMul_i, DL.opMod_i, DL.opFdiv_i, DL.opPow_i, DL.opLt_i, DL.opLe_i, DL.opGt_i, DL.opGe_i, DL.opEq_int, DL.opNe_int, DL.opEq_str, DL.opNe_str, DL.opIsN_n, DL.opNotN_n, DL.isN, DL.opIsB_b, DL.opNotB_b, DL.opNeg_i, DL.bAbs_i, DL.bMax_i, DL.bMin_i, DL.bInt_i, DL.bGcd_i, DL.bLen_l, DL.bLen_t, DL.opAdd_t, DL.opAdd_l, DL.opIx_l, DL.opIx_t, DL.opSl_t, DL.opSl_l, DL.opRev_t, DL.opRev_l, DL.bList_l, DL.bList_t, DL.bTup_l, DL.bTup_t, DL.atI0, DL.atI1, DL.atI2, DL.atI3]
  refine dr (by omega) (by decide) (by decide) fun r4 p7 p8 => ?_
  simp only [DL.mSeq, DL.mAsg, DL.mAsgR, DL.mAsgM, DL.mrs, DL.ssets, DL.mIf, DL.mRet, DL.mRetN, DL.mrOf, DL.mrLst, DL.mrCat, DL.mrCall, DL.mDrop, DL.mNext, DL.mBreak, DL.mCont, DL.mC, DL.mVar, DL.mOp2, DL.mOp1, DL.mAnd, DL.mOr, DL.mNot, DL.mIfE, DL.mChain, DL.mNil, DL.mCons, DL.mTup, DL.mLst, DL.mCallB, DL.mDict0, DL.mPart, DL.mNoPart, DL.mSl, DL.mCall, DL.mCallK, DL.mCallW, DL.mLenScr, DL.mWell, DL.mT, DL.mTAnd, DL.mTOr, DL.mTNot, DL.mTYes, DL.mgName, DL.mgNil, DL.mgCons, DL.mgTup, DL.miSeq, DL.miRng1, DL.miRng2, DL.mRaise, DL.mApp, DL.mFor, DL.mLc, DL.mrLc, DL.sget, DL.sset, DL.slots0, DL.slotsW, DL.endP, DL.endW, DL.endL, DL.wF, DL.fz_va, DL.fz_own, List.length_cons, List.length_nil, List.map_cons, List.map_nil, List.replicate_succ, List.replicate_zero, Nat.reduceAdd, Nat.reduceSub, Nat.reduceLeDiff, List.cons_append, List.nil_append, Nat.zero_add, Nat.add_zero, Nat.sub_self, Option.some.injEq, PyData.bool.injEq, PyData.int.injEq, PyData.tuple.injEq, PyData.list.injEq, PyData.str.injEq, List.cons.injEq, DL.S.va.injEq, DL.S.own.injEq, DL.S.well.injEq, DL.S.scr.injEq, and_true, true_and, exists_eq_left', exists_eq_left, exists_eq_right, exists_eq_right', exists_and_left, exists_and_right, exists_eq, exists_eq', reduceCtorEq, false_and, and_false, exists_const, if_true, if_false, Bool.false_eq_true, reduceIte, Bool.not_true, Bool.not_false, DL.bIsi, List.any_cons, List.any_nil, Bool.or_false, Bool.or_true, Bool.false_or, Bool.true_or, DL.isK, DL.opAdd_i, DL.opSub_i, DL.opMul_i, DL.opMod_i, DL.opFdiv_i, DL.opPow_i, DL.opLt_i, DL.opLe_i, DL.opGt_i, DL.opGe_i, DL.opEq_int, DL.opNe_int, DL.opEq_str, DL.opNe_str, DL.opIsN_n, DL.opNotN_n, DL.isN, DL.opIsB_b, DL.opNotB_b, DL.opNeg_i, DL.bAbs_i, DL.bMax_i, DL.bMin_i, DL.bInt_i, DL.bGcd_i, DL.bLen_l, DL.bLen_t, DL.opAdd_t, DL.opAdd_l, DL.opIx_l, DL.opIx_t, DL.opSl_t, DL.opSl_l, DL.opRev_t, DL.opRev_l, DL.bList_l, DL.bList_t, DL.bTup_l, DL.bTup_t, DL.atI0, DL.atI1, DL.atI2, DL.atI3]
  have c : r4 = 0 ∨ r4 = 1 ∨ r4 = 2 ∨ r4 = 3 := by omega
  rcases c with rfl | rfl | rfl | rfl <;> simp only [DL.mSeq, DL.mAsg, DL.mAsgR, DL.mAsgM, DL.mrs, DL.ssets, DL.mIf, DL.mRet, DL.mRetN, DL.mrOf, DL.mrLst, DL.mrCat, DL.mrCall, DL.mDrop, DL.mNext, DL.mBreak, DL.mCont, DL.mC, DL.mVar, DL.mOp2, DL.mOp1, DL.mAnd, DL.mOr, DL.mNot, DL.mIfE, DL.mChain, DL.mNil, DL.mCons, DL.mTup, DL.mLst, DL.mCallB, DL.mDict0, DL.mPart, DL.mNoPart, DL.mSl, DL.mCall, DL.mCallK, DL.mCallW, DL.mLenScr, DL.mWell, DL.mT, DL.mTAnd, DL.mTOr, DL.mTNot, DL.mTYes, DL.mgName, DL.mgNil, DL.mgCons, DL.mgTup, DL.miSeq, DL.miRng1, DL.miRng2, DL.mRaise, DL.mApp, DL.mFor, DL.mLc, DL.mrLc, DL.sget, DL.sset, DL.slots0, DL.slotsW, DL.endP, DL.endW, DL.endL, DL.wF, DL.fz_va, DL.fz_own, List.length_cons, List.length_nil, List.map_cons, List.map_nil, List.replicate_succ, List.replicate_zero, Nat.reduceAdd, Nat.reduceSub, Nat.reduceLeDiff, List.cons_append, List.nil_append, Nat.zero_add, Nat.add_zero, Nat.sub_self, Option.some.injEq, PyData.bool.injEq, PyData.int.injEq, PyData.tuple.injEq, PyData.list.injEq, PyData.str.injEq, List.cons.injEq, DL.S.va.injEq, DL.S.own.injEq, DL.S.well.injEq, DL.S.scr.injEq, and_true, true_and, exists_eq_left', exists_eq_left, exists_eq_right, exists_eq_right', exists_and_left, exists_and_right, exists_eq, exists_eq', reduceCtorEq, false_and, and_false, exists_const, if_true, if_false, Bool.false_eq_true, reduceIte, Bool.not_true, Bool.not_false, DL.bIsi, List.any_cons, List.any_nil, Bool.or_false, Bool.or_true, Bool.false_or, Bool.true_or, DL.isK, DL.opAdd_i, DL.opSub_i, DL.opMul_i, DL.opMod_i, DL.opFdiv_i, DL.opPow_i, DL.opLt_i, DL.opLe_i, DL.opGt_i, DL.opGe_i, DL.opEq_int, DL.opNe_int, DL.opEq_str, DL.opNe_str, DL.opIsN_n, DL.opNotN_n, DL.isN, DL.opIsB_b, DL.opNotB_b, DL.opNeg_i, DL.bAbs_i, DL.bMax_i, DL.bMin_i, DL.bInt_i, DL.bGcd_i, DL.bLen_l, DL.bLen_t, DL.opAdd_t, DL.opAdd_l, DL.opIx_l, DL.opIx_t, DL.opSl_t, DL.opSl_l, DL.opRev_t, DL.opRev_l, DL.bList_l, DL.bList_t, DL.bTup_l, DL.bTup_t, DL.atI0, DL.atI1, DL.atI2, DL.atI3] <;> exact q _ _ _ (by omega) (by omega) (by omega) (by omega) (by omega)
section
variable {P : Program} {w : World} {K : PySem.W.Frag} {mg : Str → Option Value} {base : Heap} {CN : String → Option Addr}
theorem ok__law_desk {f : Addr} {fd : FuncData} (F : Fun K "_law_desk" "_law_desk" s__law_desk f fd) (g : G K mg CN) (c__law_draw : CalW P w K mg base 1 "_law_draw" dDraw) : FnG P w K mg base 2 f fd ["well", "most"] (spW K D__law_desk) := by
  have sc := sc__law_desk
  exact fun_okW (m := m__law_desk) (CN := CN) F sc (by decide) len__law_desk (fun cdv A outer s H E C hr tk =>
    (pds_cons (pds_asg (ps_asg (pd_op or_add rl_add pd_int (pd_callW c__law_draw hr (by decide) tk (pv 0) (pda_cons (dv 1) pda_nil))) (dg 2 sc.nd)))
    (pds_cons (pds_asg (ps_asg (pd_ix ix_seq rl_ix (pd_lst (pda_cons (pd_op or_add rl_add pd_int (pd_callW c__law_draw hr (by decide) tk (pv 0) (pda_cons (dv 1) pda_nil))) (pda_cons (dv 2) (pda_cons (pd_op or_mul rl_mul (dv 2) pd_int) (pda_cons (pd_op or_add rl_add pd_int (pd_callW c__law_draw hr (by decide) tk (pv 0) (pda_cons pd_int pda_nil))) pda_nil))))) (pd_callW c__law_draw hr (by decide) tk (pv 0) (pda_cons pd_int pda_nil))) (dg 3 sc.nd)))
    (pds_one (pds_ret (pdr_of (pd_tup (pda_cons (dv 2) (pda_cons (dv 3) pda_nil))))))))) rd__law_desk
end
end LW
namespace LW
open PySem PySem.Spec PyProof.Rows L2 DL
def m__law_roll : MS :=
  mSeq (mAsg (mOp2 opIx (mLst (mCons (mC (.int 0)) (mCons (mOp2 opIx (mVar 1) (mC (.int 0))) (mCons (mCallW dDraw 0 (mCons (mOp2 opAdd (mOp2 opIx (mVar 1) (mC (.int 0))) (mC (.int 1))) (mNil))) (mNil))))) (mCallB bMin (mCons (mC (.int 2)) (mCons (mCallW dDraw 0 (mCons (mC (.int 5)) (mNil))) (mNil))))) (mgName 3))
  (mSeq (mAsg (mOp2 opIx (mLst (mCons (mC (.int 0)) (mCons (mOp2 opIx (mVar 1) (mC (.int 1))) (mCons (mCallW dDraw 0 (mCons (mOp2 opAdd (mOp2 opIx (mVar 1) (mC (.int 1))) (mC (.int 1))) (mNil))) (mNil))))) (mCallB bMin (mCons (mC (.int 2)) (mCons (mCallW dDraw 0 (mCons (mC (.int 5)) (mNil))) (mNil))))) (mgName 4))
  (mSeq (mAsgM [5, 6] [mrOf (mOp2 opSub (mCallW dDraw 0 (mCons (mOp2 opAdd (mOp2 opMul (mC (.int 2)) (mVar 2)) (mC (.int 1))) (mNil))) (mVar 2)), mrOf (mOp2 opSub (mCallW dDraw 0 (mCons (mOp2 opAdd (mOp2 opMul (mC (.int 2)) (mVar 2)) (mC (.int 1))) (mNil))) (mVar 2))])
  (mSeq (mIf (mT (mOp2 opEq (mCallW dDraw 0 (mCons (mC (.int 8)) (mNil))) (mC (.int 0)))) (mAsg (mC (.int 0)) (mgName 5)) (mIf (mT (mOp2 opEq (mCallW dDraw 0 (mCons (mC (.int 8)) (mNil))) (mC (.int 0)))) (mAsg (mC (.int 0)) (mgName 6)) (mNext)))
  (mRet (mrOf (mIfE (mT (mOp2 opNe (mTup (mCons (mVar 5) (mCons (mVar 6) (mNil)))) (mTup (mCons (mC (.int 0)) (mCons (mC (.int 0)) (mNil)))))) (mTup (mCons (mVar 3) (mCons (mVar 4) (mCons (mVar 5) (mCons (mVar 6) (mNil)))))) (mTup (mCons (mVar 3) (mCons (mVar 4) (mCons (mC (.int 1)) (mCons (mC (.int 1)) (mNil))))))))))))
theorem opNe_tt {a b c e : Int} : opNe (.tuple [.int a, .int b]) (.tuple [.int c, .int e]) = some (.bool (!(decide (a = c) && decide (b = e)))) := by
  unfold opNe SeqAt.shaped
  simp [PyData.canLay0, PyData.canLayAll0, PyData.depth, PyData.depthAll, PyData.eqv, PyData.eqvAll]
  by_cases h : a = c <;> by_cases h2 : b = e <;> simp [h, h2]
def D__law_roll : WSpec := fun n ds Q => ∃ a b m, ds = [.tuple [.int a, .int b], .int m] ∧ 10 ≤ n ∧ 1 ≤ a ∧ a < 2 ^ 150 ∧ 1 ≤ b ∧ b < 2 ^ 150 ∧ 1 ≤ m ∧ m < 2 ^ 150 ∧
  ∀ x y p q n', n ≤ n' + 10 → 0 ≤ x → x ≤ a → 0 ≤ y → y ≤ b → (-m - 1 ≤ p ∧ p ≤ m + 1) → (-m - 1 ≤ q ∧ q ≤ m + 1) → (p ≠ 0 ∨ q ≠ 0) → Q (.va (.tuple [.int x, .int y, .int p, .int q])) n'
theorem len__law_roll : ∀ n ds Q, D__law_roll n ds Q → ds.length + 1 = 3 := by
  rintro n _ Q ⟨a, b, m, rfl, _⟩
  rfl
theorem rd__law_roll : ∀ n ds Q, D__law_roll n ds Q → m__law_roll (endW Q) (slotsW 7 n ds) := by
  rintro n _ Q ⟨a, b, m, rfl, hn, a1, a2, b1, b2, m1, m2, q⟩
  unfold m__law_roll
  simp only [DL.mSeq, DL.mAsg, DL.mAsgR, DL.mAsgM, DL.mrs, DL.ssets, DL.mIf, DL.mRet, DL.mRetN, DL.mrOf, DL.mrLst, DL.mrCat, DL.mrCall, DL.mDrop, DL.mNext, DL.mBreak, DL.mCont, DL.mC, DL.mVar, DL.mOp2, DL.mOp1, DL.mAnd, DL.mOr, DL.mNot, DL.mIfE, DL.mChain, DL.mNil, DL.mCons, DL.mTup, DL.mLst, DL.mCallB, DL.mDict0, DL.mPart, DL.mNoPart, DL.mSl, DL.mCall, DL.mCallK, DL.mCallW, DL.mLenScr, DL.mWell, DL.mT, DL.mTAnd, DL.mTOr, DL.mTNot, DL.mTYes, DL.mgName, DL.mgNil, DL.mgCons, DL.mgTup, DL.miSeq, DL.miRng1, DL.miRng2, DL.mRaise, DL.mApp, DL.mFor, DL.mLc, DL.mrLc, DL.sget, DL.sset, DL.slots0, DL.slotsW, DL.endP, DL.endW, DL.endL, DL.wF, DL.fz_va, DL.fz_own, List.length_cons, List.length_nil, List.map_cons, List.map_nil, List.replicate_succ, List.replicate_zero, Nat.reduceAdd, Nat.reduceSub, Nat.reduceLeDiff, List.cons_append, List.nil_append, Nat.zero_add, Nat.add_zero, Nat.sub_self, Option.some.injEq, PyData.bool.injEq, PyData.int.injEq, PyData.tuple.injEq, PyData.list.injEq, PyData.str.injEq, List.cons.injEq, DL.S.va.injEq, DL.S.own.injEq, DL.S.well.injEq, DL.S.scr.injEq, and_true, true_and, exists_eq_left', exists_eq_left, exists_eq_right, exists_eq_right', exists_and_left, exists_and_right, exists_eq, exists_eq', reduceCtorEq, false_and, and_false, exists_const, if_true, if_false, Bool.false_eq_true, reduceIte, Bool.not_true, Bool.not_false, DL.bIsi, List.any_cons, List.any_nil, Bool.or_false, Bool.or_true, Bool.false_or, Bool.true_or, DL.isK, DL.opAdd_i, DL.opSub_i, DL.opMul_i, DL.opMod_i, DL.opFdiv_i, DL.opPow_i, DL.opLt_i, DL.opLe_i, DL.opGt_i, DL.opGe_i, DL.opEq_int, DL.opNe_int, DL.opEq_str, DL.opNe_str, DL.opIsN_n, DL.opNotN_n, DL.isN, DL.opIsB_b, DL.opNotB_b, DL.opNeg_i, DL.bAbs_i, DL.bMax_i, DL.bMin_i, DL.bInt_i, DL.bGcd_i, DL.bLen_l, DL.bLen_t, DL.opAdd_t, DL.opAdd_l, DL.opIx_l, DL.opIx_t, DL.opSl_t, DL.opSl_l, DL.opRev_t, DL.opRev_l, DL.bList_l, DL.bList_t, DL.bTup_l, DL.bTup_t, DL.atI0, DL.atI1, DL.atI2, DL.atI3]
  refine dr (by omega) (by omega) (by omega) fun r1 p1 p2 => ?_
  simp only [DL.mSeq, DL.mAsg, DL.mAsgR, DL.mAsgM, DL.mrs, DL.ssets, DL.mIf, DL.mRet, DL.mRetN, DL.mrOf, DL.mrLst, DL.mrCat, DL.mrCall, DL.mDrop, DL.mNext, DL.mBreak, DL.mCont, DL.mC, DL.mVar, DL.mOp2, DL.mOp1, DL.mAnd, DL.mOr, DL.mNot, DL.mIfE, DL.mChain, DL.mNil, DL.mCons, DL.mTup, DL.mLst, DL.mCallB, DL.mDict0, DL.mPart, DL.mNoPart, DL.mSl, DL.mCall, DL.mCallK, DL.mCallW, DL.mLenScr, DL.mWell, DL.mT, DL.mTAnd, DL.mTOr, DL.mTNot, DL.mTYes, DL.mgName, DL.mgNil, DL.mgCons, DL.mgTup, DL.miSeq, DL.miRng1, DL.miRng2, DL.mRaise, DL.mApp, DL.mFor, DL.mLc, DL.mrLc, DL.sget, DL.sset, DL.slots0, DL.slotsW, DL.endP, DL.endW, DL.endL, DL.wF, DL.fz_va, DL.fz_own, List.length_cons, List.length_nil, List.map_cons, List.map_nil, List.replicate_succ, List.replicate_zero, Nat.reduceAdd, Nat.reduceSub, Nat.reduceLeDiff, List.cons_append, List.nil_append, Nat.zero_add, Nat.add_zero, Nat.sub_self, Option.some.injEq, PyData.bool.injEq, PyData.int.injEq, PyData.tuple.injEq, PyData.list.injEq, PyData.str.injEq, List.cons.injEq, DL.S.va.injEq, DL.S.own.injEq, DL.S.well.injEq, DL.S.scr.injEq, and_true, true_and, exists_eq_left', exists_eq_left, exists_eq_right, exists_eq_right', exists_and_left, exists_and_right, exists_eq, exists_eq', reduceCtorEq, false_and, and_false, exists_const, if_true, if_false, Bool.false_eq_true, reduceIte, Bool.not_true, Bool.not_false, DL.bIsi, List.any_cons, List.any_nil, Bool.or_false, Bool.or_true, Bool.false_or, Bool.true_or, DL.isK, DL.opAdd_i, DL.opSub_i, DL.opMul_i, DL.opMod_i, DL.opFdiv_i, DL.opPow_i, DL.opLt_i, DL.opLe_i, DL.opGt_i, DL.opGe_i, DL.opEq_int, DL.opNe_int, DL.opEq_str, DL.opNe_str, DL.opIsN_n, DL.opNotN_n, DL.isN, DL.opIsB_b, DL.opNotB_b, DL.opNeg_i, DL.bAbs_i, DL.bMax_i, DL.bMin_i, DL.bInt_i, DL.bGcd_i, DL.bLen_l, DL.bLen_t, DL.opAdd_t, DL.opAdd_l, DL.opIx_l, DL.opIx_t, DL.opSl_t, DL.opSl_l, DL.opRev_t, DL.opRev_l, DL.bList_l, DL.bList_t, DL.bTup_l, DL.bTup_t, DL.atI0, DL.atI1, DL.atI2, DL.atI3]
  refine dr (by omega) (by decide) (by decide) fun r2 p3 p4 => ?_
  simp only [DL.mSeq, DL.mAsg, DL.mAsgR, DL.mAsgM, DL.mrs, DL.ssets, DL.mIf, DL.mRet, DL.mRetN, DL.mrOf, DL.mrLst, DL.mrCat, DL.mrCall, DL.mDrop, DL.mNext, DL.mBreak, DL.mCont, DL.mC, DL.mVar, DL.mOp2, DL.mOp1, DL.mAnd, DL.mOr, DL.mNot, DL.mIfE, DL.mChain, DL.mNil, DL.mCons, DL.mTup, DL.mLst, DL.mCallB, DL.mDict0, DL.mPart, DL.mNoPart, DL.mSl, DL.mCall, DL.mCallK, DL.mCallW, DL.mLenScr, DL.mWell, DL.mT, DL.mTAnd, DL.mTOr, DL.mTNot, DL.mTYes, DL.mgName, DL.mgNil, DL.mgCons, DL.mgTup, DL.miSeq, DL.miRng1, DL.miRng2, DL.mRaise, DL.mApp, DL.mFor, DL.mLc, DL.mrLc, DL.sget, DL.sset, DL.slots0, DL.slotsW, DL.endP, DL.endW, DL.endL, DL.wF, DL.fz_va, DL.fz_own, List.length_cons, List.length_nil, List.map_cons, List.map_nil, List.replicate_succ, List.replicate_zero, Nat.reduceAdd, Nat.reduceSub, Nat.reduceLeDiff, List.cons_append, List.nil_append, Nat.zero_add, Nat.add_zero, Nat.sub_self, Option.some.injEq, PyData.bool.injEq, PyData.int.injEq, PyData.tuple.injEq, PyData.list.injEq, PyData.str.injEq, List.cons.injEq, DL.S.va.injEq, DL.S.own.injEq, DL.S.well.injEq, DL.S.scr.injEq, and_true, true_and, exists_eq_left', exists_eq_left, exists_eq_right, exists_eq_right', exists_and_left, exists_and_right, exists_eq, exists_eq', reduceCtorEq, false_and, and_false, exists_const, if_true, if_false, Bool.false_eq_true, reduceIte, Bool.not_true, Bool.not_false, DL.bIsi, List.any_cons, List.any_nil, Bool.or_false, Bool.or_true, Bool.false_or, Bool.true_or, DL.isK, DL.opAdd_i, DL.opSub_i, DL.opMul_i, DL.opMod_i, DL.opFdiv_i, DL.opPow_i, DL.opLt_i, DL.opLe_i, DL.opGt_i, DL.opGe_i, DL.opEq_int, DL.opNe_int, DL.opEq_str, DL.opNe_str, DL.opIsN_n, DL.opNotN_n, DL.isN, DL.opIsB_b, DL.opNotB_b, DL.opNeg_i, DL.bAbs_i, DL.bMax_i, DL.bMin_i, DL.bInt_i, DL.bGcd_i, DL.bLen_l, DL.bLen_t, DL.opAdd_t, DL.opAdd_l, DL.opIx_l, DL.opIx_t, DL.opSl_t, DL.opSl_l, DL.opRev_t, DL.opRev_l, DL.bList_l, DL.bList_t, DL.bTup_l, DL.bTup_t, DL.atI0, DL.atI1, DL.atI2, DL.atI3]
  obtain ⟨x, e1, x0, x1⟩ : ∃ x : Int, DL.atI [PyData.int 0, .int a, .int r1] (if r2 < 2 then r2 else 2) = some (.int x) ∧ 0 ≤ x ∧ x ≤ a := by
    have c : r2 = 0 ∨ r2 = 1 ∨ 2 ≤ r2 := by omega
    rcases c with rfl | rfl | c
    · exact ⟨0, rfl, by omega, by omega⟩
    · exact ⟨a, rfl, by omega, by omega⟩
    · rw [if_neg (by omega)]
      exact ⟨r1, rfl, by omega, by omega⟩
  rw [e1]
  simp only [DL.mSeq, DL.mAsg, DL.mAsgR, DL.mAsgM, DL.mrs, DL.ssets, DL.mIf, DL.mRet, DL.mRetN, DL.mrOf, DL.mrLst, DL.mrCat, DL.mrCall, DL.mDrop, DL.mNext, DL.mBreak, DL.mCont, DL.mC, DL.mVar, DL.mOp2, DL.mOp1, DL.mAnd, DL.mOr, DL.mNot, DL.mIfE, DL.mChain, DL.mNil, DL.mCons, DL.mTup, DL.mLst, DL.mCallB, DL.mDict0, DL.mPart, DL.mNoPart, DL.mSl, DL.mCall, DL.mCallK, DL.mCallW, DL.mLenScr, DL.mWell, DL.mT, DL.mTAnd, DL.mTOr, DL.mTNot, DL.mTYes, DL.mgName, DL.mgNil, DL.mgCons, DL.mgTup, DL.miSeq, DL.miRng1, DL.miRng2, DL.mRaise, DL.mApp, DL.mFor, DL.mLc, DL.mrLc, DL.sget, DL.sset, DL.slots0, DL.slotsW, DL.endP, DL.endW, DL.endL, DL.wF, DL.fz_va, DL.fz_own, List.length_cons, List.length_nil, List.map_cons, List.map_nil, List.replicate_succ, List.replicate_zero, Nat.reduceAdd, Nat.reduceSub, Nat.reduceLeDiff, List.cons_append, List.nil_append, Nat.zero_add, Nat.add_zero, Nat.sub_self, Option.some.injEq, PyData.bool.injEq, PyData.int.injEq, PyData.tuple.injEq, PyData.list.injEq, PyData.str.injEq, List.cons.injEq, DL.S.va.injEq, DL.S.own.injEq, DL.S.well.injEq, DL.S.scr.injEq, and_true, true_and, exists_eq_left', exists_eq_left, exists_eq_right, exists_eq_right', exists_and_left, exists_and_right, exists_eq, exists_eq', reduceCtorEq, false_and, and_false, exists_const, if_true, if_false, Bool.false_eq_true, reduceIte, Bool.not_true, Bool.not_false, DL.bIsi, List.any_cons, List.any_nil, Bool.or_false, Bool.or_true, Bool.false_or, Bool.true_or, DL.isK, DL.opAdd_i, DL.opSub_i, DL.opMul_i, DL.opMod_i, DL.opFdiv_i, DL.opPow_i, DL.opLt_i, DL.opLe_i, DL.opGt_i, DL.opGe_i, DL.opEq_int, DL.opNe_int, DL.opEq_str, DL.opNe_str, DL.opIsN_n, DL.opNotN_n, DL.isN, DL.opIsB_b, DL.opNotB_b, DL.opNeg_i, DL.bAbs_i, DL.bMax_i, DL.bMin_i, DL.bInt_i, DL.bGcd_i, DL.bLen_l, DL.bLen_t, DL.opAdd_t, DL.opAdd_l, DL.opIx_l, DL.opIx_t, DL.opSl_t, DL.opSl_l, DL.opRev_t, DL.opRev_l, DL.bList_l, DL.bList_t, DL.bTup_l, DL.bTup_t, DL.atI0, DL.atI1, DL.atI2, DL.atI3]
  refine dr (by omega) (by omega) (by omega) fun r3 p5 p6 => ?_
  simp only [DL.mSeq, DL.mAsg, DL.mAsgR, DL.mAsgM, DL.mrs, DL.ssets, DL.mIf, DL.mRet, DL.mRetN, DL.mrOf, DL.mrLst, DL.mrCat, DL.mrCall, DL.mDrop, DL.mNext, DL.mBreak, DL.mCont, DL.mC, DL.mVar, DL.mOp2, DL.mOp1, DL.mAnd, DL.mOr, DL.mNot, DL.mIfE, DL.mChain, DL.mNil, DL.mCons, DL.mTup, DL.mLst, DL.mCallB, DL.mDict0, DL.mPart, DL.mNoPart, DL.mSl, DL.mCall, DL.mCallK, DL.mCallW, DL.mLenScr, DL.mWell, DL.mT, DL.mTAnd, DL.mTOr, DL.mTNot, DL.mTYes, DL.mgName, DL.mgNil, DL.mgCons, DL.mgTup, DL.miSeq, DL.miRng1, DL.miRng2, DL.mRaise, DL.mApp, DL.mFor, DL.mLc, DL.mrLc, DL.sget, DL.sset, DL.slots0, DL.slotsW, DL.endP, DL.endW, DL.endL, DL.wF, DL.fz_va, DL.fz_own, List.length_cons, List.length_nil, List.map_cons, List.map_nil, List.replicate_succ, List.replicate_zero, Nat.reduceAdd, Nat.reduceSub, Nat.reduceLeDiff, List.cons_append, List.nil_append, Nat.zero_add, Nat.add_zero, Nat.sub_self, Option.some.injEq, PyData.bool.injEq, PyData.int.injEq, PyData.tuple.injEq, PyData.list.injEq, PyData.str.injEq, List.cons.injEq, DL.S.va.injEq, DL.S.own.injEq, DL.S.well.injEq, DL.S.scr.injEq, and_true, true_and, exists_eq_left', exists_eq_left, exists_eq_right, exists_eq_right', exists_and_left, exists_and_right, exists_eq, exists_eq', reduceCtorEq, false_and, and_false, exists_const, if_true, if_false, Bool.false_eq_true, reduceIte, Bool.not_true, Bool.not_false, DL.bIsi, List.any_cons, List.any_nil, Bool.or_false, Bool.or_true, Bool.false_or, Bool.true_or, DL.isK, DL.opAdd_i, DL.opSub_i, DL.opMul_i, DL.opMod_i, DL.opFdiv_i, DL.opPow_i, DL.opLt_i, DL.opLe_i, DL.opGt_i, DL.opGe_i, DL.opEq_int, DL.opNe_int, DL.opEq_str, DL.opNe_str, DL.opIsN_n, DL.opNotN_n, DL.isN, DL.opIsB_b, DL.opNotB_b, DL.opNeg_i, DL.bAbs_i, DL.bMax_i, DL.bMin_i, DL.bInt_i, DL.bGcd_i, DL.bLen_l, DL.bLen_t, DL.opAdd_t, DL.opAdd_l, DL.opIx_l, DL.opIx_t, DL.opSl_t, DL.opSl_l, DL.opRev_t, DL.opRev_l, DL.bList_l, DL.bList_t, DL.bTup_l, DL.bTup_t, DL.atI0, DL.atI1, DL.atI2, DL.atI3]
  refine dr (by omega) (by decide) (by decide) fun r4 p7 p8 => ?_
  simp only [DL.mSeq, DL.mAsg, DL.mAsgR, DL.mAsgM, DL.mrs, DL.ssets, DL.mIf, DL.mRet, DL.mRetN, DL.mrOf, DL.mrLst, DL.mrCat, DL.mrCall, DL.mDrop, DL.mNext, DL.mBreak, DL.mCont, DL.mC, DL.mVar, DL.mOp2, DL.mOp1, DL.mAnd, DL.mOr, DL.mNot, DL.mIfE, DL.mChain, DL.mNil, DL.mCons, DL.mTup, DL.mLst, DL.mCallB, DL.mDict0, DL.mPart, DL.mNoPart, DL.mSl, DL.mCall, DL.mCallK, DL.mCallW, DL.mLenScr, DL.mWell, DL.mT, DL.mTAnd, DL.mTOr, DL.mTNot, DL.mTYes, DL.mgName, DL.mgNil, DL.mgCons, DL.mgTup, DL.miSeq, DL.miRng1, DL.miRng2, DL.mRaise, DL.mApp, DL.mFor, DL.mLc, DL.mrLc, DL.sget, DL.sset, DL.slots0, DL.slotsW, DL.endP, DL.endW, DL.endL, DL.wF, DL.fz_va, DL.fz_own, List.length_cons, List.length_nil, List.map_cons, List.map_nil, List.replicate_succ, List.replicate_zero, Nat.reduceAdd, Nat.reduceSub, Nat.reduceLeDiff, List.cons_append, List.nil_append, Nat.zero_add, Nat.add_zero, Nat.sub_self, Option.some.injEq, PyData.bool.injEq, PyData.int.injEq, PyData.tuple.injEq, PyData.list.injEq, PyData.str.injEq, List.cons.injEq, DL.S.va.injEq, DL.S.own.injEq, DL.S.well.injEq, DL.S.scr.injEq, and_true, true_and, exists_eq_left', exists_eq_left, exists_eq_right, exists_eq_right', exists_and_left, exists_and_right, exists_eq, exists_eq', reduceCtorEq, false_and, and_false, exists_const, if_true, if_false, Bool.false_eq_true, reduceIte, Bool.not_true, Bool.not_false, DL.bIsi, List.any_cons, List.any_nil, Bool.or_false, Bool.or_true, Bool.false_or, Bool.true_or, DL.isK, DL.opAdd_i, DL.opSub_i, DL.opMul_i, DL.opMod_i, DL.opFdiv_i, DL.opPow_i, DL.opLt_i, DL.opLe_i, DL.opGt_i, DL.opGe_i, DL.opEq_int, DL.opNe_int, DL.opEq_str, DL.opNe_str, DL.opIsN_n, DL.opNotN_n, DL.isN, DL.opIsB_b, DL.opNotB_b, DL.opNeg_i, DL.bAbs_i, DL.bMax_i, DL.bMin_i, DL.bInt_i, DL.bGcd_i, DL.bLen_l, DL.bLen_t, DL.opAdd_t, DL.opAdd_l, DL.opIx_l, DL.opIx_t, DL.opSl_t, DL.opSl_l, DL.opRev_t, DL.opRev_l, DL.bList_l, DL.bList_t, DL.bTup_l, DL.bTup_t, DL.atI0, DL.atI1, DL.atI2, DL.atI3]
  obtain ⟨y, e2, y0, y1⟩ : ∃ y : Int, DL.atI [PyData.int 0, .int b, .int r3] (if r4 < 2 then r4 else 2) = some (.int y) ∧ 0 ≤ y ∧ y ≤ b := by
    have c : r4 = 0 ∨ r4 = 1 ∨ 2 ≤ r4 := by omega
    rcases c with rfl | rfl | c
    · exact ⟨0, rfl, by omega, by omega⟩
    · exact ⟨b, rfl, by omega, by omega⟩
    · rw [if_neg (by omega)]
      exact ⟨r3, rfl, by omega, by omega⟩
  rw [e2]
  simp only [DL.mSeq, DL.mAsg, DL.mAsgR, DL.mAsgM, DL.mrs, DL.ssets, DL.mIf, DL.mRet, DL.mRetN, DL.mrOf, DL.mrLst, DL.mrCat, DL.mrCall, DL.mDrop, DL.mNext, DL.mBreak, DL.mCont, DL.mC, DL.mVar, DL.mOp2, DL.mOp1, DL.mAnd, DL.mOr, DL.mNot, DL.mIfE, DL.mChain, DL.mNil, DL.mCons, DL.mTup, DL.mLst, DL.mCallB, DL.mDict0, DL.mPart, DL.mNoPart, DL.mSl, DL.mCall, DL.mCallK, DL.mCallW, DL.mLenScr, DL.mWell, DL.mT, DL.mTAnd, DL.mTOr, DL.mTNot, DL.mTYes, DL.mgName, DL.mgNil, DL.mgCons, DL.mgTup, DL.miSeq, DL.miRng1, DL.miRng2, DL.mRaise, DL.mApp, DL.mFor, DL.mLc, DL.mrLc, DL.sget, DL.sset, DL.slots0, DL.slotsW, DL.endP, DL.endW, DL.endL, DL.wF, DL.fz_va, DL.fz_own, List.length_cons, List.length_nil, List.map_cons, List.map_nil, List.replicate_succ, List.replicate_zero, Nat.reduceAdd, Nat.reduceSub, Nat.reduceLeDiff, List.cons_append, List.nil_append, Nat.zero_add, Nat.add_zero, Nat.sub_self, Option.some.injEq, PyData.bool.injEq, PyData.int.injEq, PyData.tuple.injEq, PyData.list.injEq, PyData.str.injEq, List.cons.injEq, DL.S.va.injEq, DL.S.own.injEq, DL.S.well.injEq, DL.S.scr.injEq, and_true, true_and, exists_eq_left', exists_eq_left, exists_eq_right, exists_eq_right', exists_and_left, exists_and_right, exists_eq, exists_eq', reduceCtorEq, false_and, and_false, exists_const, if_true, if_false, Bool.false_eq_true, reduceIte, Bool.not_true, Bool.not_false, DL.bIsi, List.any_cons, List.any_nil, Bool.or_false, Bool.or_true, Bool.false_or, Bool.true_or, DL.isK, DL.opAdd_i, DL.opSub_i, DL.opMul_i, DL.opMod_i, DL.opFdiv_i, DL.opPow_i, DL.opLt_i, DL.opLe_i, DL.opGt_i, DL.opGe_i, DL.opEq_int, DL.opNe_int, DL.opEq_str, DL.opNe_str, DL.opIsN_n, DL.opNotN_n, DL.isN, DL.opIsB_b, DL.opNotB_b, DL.opNeg_i, DL.bAbs_i, DL.bMax_i, DL.bMin_i, DL.bInt_i, DL.bGcd_i, DL.bLen_l, DL.bLen_t, DL.opAdd_t, DL.opAdd_l, DL.opIx_l, DL.opIx_t, DL.opSl_t, DL.opSl_l, DL.opRev_t, DL.opRev_l, DL.bList_l, DL.bList_t, DL.bTup_l, DL.bTup_t, DL.atI0, DL.atI1, DL.atI2, DL.atI3]
  rw [if_pos (small2 (by decide) (by omega))]
  simp only [DL.mSeq, DL.mAsg, DL.mAsgR, DL.mAsgM, DL.mrs, DL.ssets, DL.mIf, DL.mRet, DL.mRetN, DL.mrOf, DL.mrLst, DL.mrCat, DL.mrCall, DL.mDrop, DL.mNext, DL.mBreak, DL.mCont, DL.mC, DL.mVar, DL.mOp2, DL.mOp1, DL.mAnd, DL.mOr, DL.mNot, DL.mIfE, DL.mChain, DL.mNil, DL.mCons, DL.mTup, DL.mLst, DL.mCallB, DL.mDict0, DL.mPart, DL.mNoPart, DL.mSl, DL.mCall, DL.mCallK, DL.mCallW, DL.mLenScr, DL.mWell, DL.mT, DL.mTAnd, DL.mTOr, DL.mTNot, DL.mTYes, DL.mgName, DL.mgNil, DL.mgCons, DL.mgTup, DL.miSeq, DL.miRng1, DL.miRng2, DL.mRaise, DL.mApp, DL.mFor, DL.mLc, DL.mrLc, DL.sget, DL.sset, DL.slots0, DL.slotsW, DL.endP, DL.endW, DL.endL, DL.wF, DL.fz_va, DL.fz_own, List.length_cons, List.length_nil, List.map_cons, List.map_nil, List.replicate_succ, List.replicate_zero, Nat.reduceAdd, Nat.reduceSub, Nat.reduceLeDiff, List.cons_append, List.nil_append, Nat.zero_add, Nat.add_zero, Nat.sub_self, Option.some.injEq, PyData.bool.injEq, PyData.int.injEq, PyData.tuple.injEq, PyData.list.injEq, PyData.str.injEq, List.cons.injEq, DL.S.va.injEq, DL.S.own.injEq, DL.S.well.injEq, DL.S.scr.injEq, and_true, true_and, exists_eq_left', exists_eq_left, exists_eq_right, exists_eq_right', exists_and_left, exists_and_right, exists_eq, exists_eq', reduceCtorEq, false_and, and_false, exists_const, if_true, if_false, Bool.false_eq_true, reduceIte, Bool.not_true, Bool.not_false, DL.bIsi, List.any_cons, List.any_nil, Bool.or_false, Bool.or_true, Bool.false_or, Bool.true_or, DL.isK, DL.opAdd_i, DL.opSub_i, DL.opMul_i, DL.opMod_i, DL.opFdiv_i, DL.opPow_i, DL.opLt_i, DL.opLe_i, DL.opGt_i, DL.opGe_i, DL.opEq_int, DL.opNe_int, DL.opEq_str, DL.opNe_str, DL.opIsN_n, DL.opNotN_n, DL.isN, DL.opIsB_b, DL.opNotB_b, DL.opNeg_i, DL.bAbs_i, DL.bMax_i, DL.bMin_i, DL.bInt_i, DL.bGcd_i, DL.bLen_l, DL.bLen_t, DL.opAdd_t, DL.opAdd_l, DL.opIx_l, DL.opIx_t, DL.opSl_t, DL.opSl_l, DL.opRev_t, DL.opRev_l, DL.bList_l, DL.bList_t, DL.bTup_l, DL.bTup_t, DL.atI0, DL.atI1, DL.atI2, DL.atI3]
  refine dr (by omega) (by omega) (by omega) fun r5 p9 p10 => ?_
  simp only [DL.mSeq, DL.mAsg, DL.mAsgR, DL.mAsgM, DL.mrs, DL.ssets, DL.mIf, DL.mRet, DL.mRetN, DL.mrOf, DL.mrLst, DL.mrCat, DL.mrCall, DL.mDrop, DL.mNext, DL.mBreak, DL.mCont, DL.mC, DL.mVar, DL.mOp2, DL.mOp1, DL.mAnd, DL.mOr, DL.mNot, DL.mIfE, DL.mChain, DL.mNil, DL.mCons, DL.mTup, DL.mLst, DL.mCallB, DL.mDict0, DL.mPart, DL.mNoPart, DL.mSl, DL.mCall, DL.mCallK, DL.mCallW, DL.mLenScr, DL.mWell, DL.mT, DL.mTAnd, DL.mTOr, DL.mTNot, DL.mTYes, DL.mgName, DL.mgNil, DL.mgCons, DL.mgTup, DL.miSeq, DL.miRng1, DL.miRng2, DL.mRaise, DL.mApp, DL.mFor, DL.mLc, DL.mrLc, DL.sget, DL.sset, DL.slots0, DL.slotsW, DL.endP, DL.endW, DL.endL, DL.wF, DL.fz_va, DL.fz_own, List.length_cons, List.length_nil, List.map_cons, List.map_nil, List.replicate_succ, List.replicate_zero, Nat.reduceAdd, Nat.reduceSub, Nat.reduceLeDiff, List.cons_append, List.nil_append, Nat.zero_add, Nat.add_zero, Nat.sub_self, Option.some.injEq, PyData.bool.injEq, PyData.int.injEq, PyData.tuple.injEq, PyData.list.injEq, PyData.str.injEq, List.cons.injEq, DL.S.va.injEq, DL.S.own.injEq, DL.S.well.injEq, DL.S.scr.injEq, and_true, true_and, exists_eq_left', exists_eq_left, exists_eq_right, exists_eq_right', exists_and_left, exists_and_right, exists_eq, exists_eq', reduceCtorEq, false_and, and_false, exists_const, if_true, if_false, Bool.false_eq_true, reduceIte, Bool.not_true, Bool.not_false, DL.bIsi, List.any_cons, List.any_nil, Bool.or_false, Bool.or_true, Bool.false_or, Bool.true_or, DL.isK, DL.opAdd_i, DL.opSub_i, DL.opMul_i, DL.opMod_i, DL.opFdiv_i, DL.opPow_i, DL.opLt_i, DL.opLe_i, DL.opGt_i, DL.opGe_i, DL.opEq_int, DL.opNe_int, DL.opEq_str, DL.opNe_str, DL.opIsN_n, DL.opNotN_n, DL.isN, DL.opIsB_b, DL.opNotB_b, DL.opNeg_i, DL.bAbs_i, DL.bMax_i, DL.bMin_i, DL.bInt_i, DL.bGcd_i, DL.bLen_l, DL.bLen_t, DL.opAdd_t, DL.opAdd_l, DL.opIx_l, DL.opIx_t, DL.opSl_t, DL.opSl_l, DL.opRev_t, DL.opRev_l, DL.bList_l, DL.bList_t, DL.bTup_l, DL.bTup_t, DL.atI0, DL.atI1, DL.atI2, DL.atI3]
  refine dr (by omega) (by omega) (by omega) fun r6 p11 p12 => ?_
  simp only [DL.mSeq, DL.mAsg, DL.mAsgR, DL.mAsgM, DL.mrs, DL.ssets, DL.mIf, DL.mRet, DL.mRetN, DL.mrOf, DL.mrLst, DL.mrCat, DL.mrCall, DL.mDrop, DL.mNext, DL.mBreak, DL.mCont, DL.mC, DL.mVar, DL.mOp2, DL.mOp1, DL.mAnd, DL.mOr, DL.mNot, DL.mIfE, DL.mChain, DL.mNil, DL.mCons, DL.mTup, DL.mLst, DL.mCallB, DL.mDict0, DL.mPart, DL.mNoPart, DL.mSl, DL.mCall, DL.mCallK, DL.mCallW, DL.mLenScr, DL.mWell, DL.mT, DL.mTAnd, DL.mTOr, DL.mTNot, DL.mTYes, DL.mgName, DL.mgNil, DL.mgCons, DL.mgTup, DL.miSeq, DL.miRng1, DL.miRng2, DL.mRaise, DL.mApp, DL.mFor, DL.mLc, DL.mrLc, DL.sget, DL.sset, DL.slots0, DL.slotsW, DL.endP, DL.endW, DL.endL, DL.wF, DL.fz_va, DL.fz_own, List.length_cons, List.length_nil, List.map_cons, List.map_nil, List.replicate_succ, List.replicate_zero, Nat.reduceAdd, Nat.reduceSub, Nat.reduceLeDiff, List.cons_append, List.nil_append, Nat.zero_add, Nat.add_zero, Nat.sub_self, Option.some.injEq, PyData.bool.injEq, PyData.int.injEq, PyData.tuple.injEq, PyData.list.injEq, PyData.str.injEq, List.cons.injEq, DL.S.va.injEq, DL.S.own.injEq, DL.S.well.injEq, DL.S.scr.injEq, and_true, true_and, exists_eq_left', exists_eq_left, exists_eq_right, exists_eq_right', exists_and_left, exists_and_right, exists_eq, exists_eq', reduceCtorEq, false_and, and_false, exists_const, if_true, if_false, Bool.false_eq_true, reduceIte, Bool.not_true, Bool.not_false, DL.bIsi, List.any_cons, List.any_nil, Bool.or_false, Bool.or_true, Bool.false_or, Bool.true_or, DL.isK, DL.opAdd_i, DL.opSub_i, DL.opMul_i, DL.opMod_i, DL.opFdiv_i, DL.opPow_i, DL.opLt_i, DL.opLe_i, DL.opGt_i, DL.opGe_i, DL.opEq_int, DL.opNe_int, DL.opEq_str, DL.opNe_str, DL.opIsN_n, DL.opNotN_n, DL.isN, DL.opIsB_b, DL.opNotB_b, DL.opNeg_i, DL.bAbs_i, DL.bMax_i, DL.bMin_i, DL.bInt_i, DL.bGcd_i, DL.bLen_l, DL.bLen_t, DL.opAdd_t, DL.opAdd_l, DL.opIx_l, DL.opIx_t, DL.opSl_t, DL.opSl_l, DL.opRev_t, DL.opRev_l, DL.bList_l, DL.bList_t, DL.bTup_l, DL.bTup_t, DL.atI0, DL.atI1, DL.atI2, DL.atI3]
  refine dr (by omega) (by decide) (by decide) fun r7 p13 p14 => ?_
  simp only [DL.mSeq, DL.mAsg, DL.mAsgR, DL.mAsgM, DL.mrs, DL.ssets, DL.mIf, DL.mRet, DL.mRetN, DL.mrOf, DL.mrLst, DL.mrCat, DL.mrCall, DL.mDrop, DL.mNext, DL.mBreak, DL.mCont, DL.mC, DL.mVar, DL.mOp2, DL.mOp1, DL.mAnd, DL.mOr, DL.mNot, DL.mIfE, DL.mChain, DL.mNil, DL.mCons, DL.mTup, DL.mLst, DL.mCallB, DL.mDict0, DL.mPart, DL.mNoPart, DL.mSl, DL.mCall, DL.mCallK, DL.mCallW, DL.mLenScr, DL.mWell, DL.mT, DL.mTAnd, DL.mTOr, DL.mTNot, DL.mTYes, DL.mgName, DL.mgNil, DL.mgCons, DL.mgTup, DL.miSeq, DL.miRng1, DL.miRng2, DL.mRaise, DL.mApp, DL.mFor, DL.mLc, DL.mrLc, DL.sget, DL.sset, DL.slots0, DL.slotsW, DL.endP, DL.endW, DL.endL, DL.wF, DL.fz_va, DL.fz_own, List.length_cons, List.length_nil, List.map_cons, List.map_nil, List.replicate_succ, List.replicate_zero, Nat.reduceAdd, Nat.reduceSub, Nat.reduceLeDiff, List.cons_append, List.nil_append, Nat.zero_add, Nat.add_zero, Nat.sub_self, Option.some.injEq, PyData.bool.injEq, PyData.int.injEq, PyData.tuple.injEq, PyData.list.injEq, PyData.str.injEq, List.cons.injEq, DL.S.va.injEq, DL.S.own.injEq, DL.S.well.injEq, DL.S.scr.injEq, and_true, true_and, exists_eq_left', exists_eq_left, exists_eq_right, exists_eq_right', exists_and_left, exists_and_right, exists_eq, exists_eq', reduceCtorEq, false_and, and_false, exists_const, if_true, if_false, Bool.false_eq_true, reduceIte, Bool.not_true, Bool.not_false, DL.bIsi, List.any_cons, List.any_nil, Bool.or_false, Bool.or_true, Bool.false_or, Bool.true_or, DL.isK, DL.opAdd_i, DL.opSub_i, DL.opMul_i, DL.opMod_i, DL.opFdiv_i, DL.opPow_i, DL.opLt_i, DL.opLe_i, DL.opGt_i, DL.opGe_i, DL.opEq_int, DL.opNe_int, DL.opEq_str, DL.opNe_str, DL.opIsN_n, DL.opNotN_n, DL.isN, DL.opIsB_b, DL.opNotB_b, DL.opNeg_i, DL.bAbs_i, DL.bMax_i, DL.bMin_i, DL.bInt_i, DL.bGcd_i, DL.bLen_l, DL.bLen_t, DL.opAdd_t, DL.opAdd_l, DL.opIx_l, DL.opIx_t, DL.opSl_t, DL.opSl_l, DL.opRev_t, DL.opRev_l, DL.bList_l, DL.bList_t, DL.bTup_l, DL.bTup_t, DL.atI0, DL.atI1, DL.atI2, DL.atI3]
  have fin : ∀ (p r : Int) (n' : Nat), n ≤ n' + 10 → (-m - 1 ≤ p ∧ p ≤ m + 1) → (-m - 1 ≤ r ∧ r ≤ m + 1) → ∃ z, opNe (.tuple [.int p, .int r]) (.tuple [.int 0, .int 0]) = some z ∧ ∃ c, z = .bool c ∧
      if c = true then Q (.va (.tuple [.int x, .int y, .int p, .int r])) n' else Q (.va (.tuple [.int x, .int y, .int 1, .int 1])) n' := by
    intro p r n' hn' hp hr
    refine ⟨_, opNe_tt, _, rfl, ?_⟩
    by_cases hz : p = 0 ∧ r = 0
    · rw [if_neg (by simp [hz.1, hz.2])]
      exact q _ _ _ _ _ hn' x0 x1 y0 y1 (by omega) (by omega) (by omega)
    · rw [if_pos (by simp only [Bool.not_eq_true', Bool.and_eq_false_imp, decide_eq_true_eq, decide_eq_false_iff_not]; omega)]
      exact q _ _ _ _ _ hn' x0 x1 y0 y1 hp hr (by omega)
  by_cases h7 : r7 = 0
  · rw [if_pos (decide_eq_true h7)]
    exact fin _ _ _ (by omega) (by omega) (by omega)
  · rw [if_neg (by simpa using h7)]
    refine dr (by omega) (by decide) (by decide) fun r8 p15 p16 => ?_
    simp only [DL.mSeq, DL.mAsg, DL.mAsgR, DL.mAsgM, DL.mrs, DL.ssets, DL.mIf, DL.mRet, DL.mRetN, DL.mrOf, DL.mrLst, DL.mrCat, DL.mrCall, DL.mDrop, DL.mNext, DL.mBreak, DL.mCont, DL.mC, DL.mVar, DL.mOp2, DL.mOp1, DL.mAnd, DL.mOr, DL.mNot, DL.mIfE, DL.mChain, DL.mNil, DL.mCons, DL.mTup, DL.mLst, DL.mCallB, DL.mDict0, DL.mPart, DL.mNoPart, DL.mSl, DL.mCall, DL.mCallK, DL.mCallW, DL.mLenScr, DL.mWell, DL.mT, DL.mTAnd, DL.mTOr, DL.mTNot, DL.mTYes, DL.mgName, DL.mgNil, DL.mgCons, DL.mgTup, DL.miSeq, DL.miRng1, DL.miRng2, DL.mRaise, DL.mApp, DL.mFor, DL.mLc, DL.mrLc, DL.sget, DL.sset, DL.slots0, DL.slotsW, DL.endP, DL.endW, DL.endL, DL.wF, DL.fz_va, DL.fz_own, List.length_cons, List.length_nil, List.map_cons, List.map_nil, List.replicate_succ, List.replicate_zero, Nat.reduceAdd, Nat.reduceSub, Nat.reduceLeDiff, List.cons_append, List.nil_append, Nat.zero_add, Nat.add_zero, Nat.sub_self, Option.some.injEq, PyData.bool.injEq, PyData.int.injEq, PyData.tuple.injEq, PyData.list.injEq, PyData.str.injEq, List.cons.injEq, DL.S.va.injEq, DL.S.own.injEq, DL.S.well.injEq, DL.S.scr.injEq, and_true, true_and, exists_eq_left', exists_eq_left, exists_eq_right, exists_eq_right', exists_and_left, exists_and_right, exists_eq, exists_eq', reduceCtorEq, false_and, and_false, exists_const, if_true, if_false, Bool.false_eq_true, reduceIte, Bool.not_true, Bool.not_false, DL.bIsi, List.any_cons, List.any_nil, Bool.or_false, Bool.or_true, Bool.false_or, Bool.true_or, DL.isK, DL.opAdd_i, DL.opSub_i, DL.opMul_i, DL.opMod_i, DL.opFdiv_i, DL.opPow_i, DL.opLt_i, DL.opLe_i, DL.opGt_i, DL.opGe_i, DL.opEq_int, DL.opNe_int, DL.opEq_str, DL.opNe_str, DL.opIsN_n, DL.opNotN_n, DL.isN, DL.opIsB_b, DL.opNotB_b, DL.opNeg_i, DL.bAbs_i, DL.bMax_i, DL.bMin_i, DL.bInt_i, DL.bGcd_i, DL.bLen_l, DL.bLen_t, DL.opAdd_t, DL.opAdd_l, DL.opIx_l, DL.opIx_t, DL.opSl_t, DL.opSl_l, DL.opRev_t, DL.opRev_l, DL.bList_l, DL.bList_t, DL.bTup_l, DL.bTup_t, DL.atI0, DL.atI1, DL.atI2, DL.atI3]
    by_cases h8 : r8 = 0
    · rw [if_pos (decide_eq_true h8)]
      exact fin _ _ _ (by omega) (by omega) (by omega)
    · rw [if_neg (by simpa using h8)]
      exact fin _ _ _ (by omega) (by omega) (by omega)
section
variable {P : Program} {w : World} {K : PySem.W.Frag} {mg : Str → Option Value} {base : Heap} {CN : String → Option Addr}
theorem ok__law_roll {f : Addr} {fd : FuncData} (F : Fun K "_law_roll" "_law_roll" s__law_roll f fd) (g : G K mg CN) (c__law_draw : CalW P w K mg base 1 "_law_draw" dDraw) : FnG P w K mg base 2 f fd ["well", "desk", "most"] (spW K D__law_roll) := by
  have sc := sc__law_roll
  exact fun_okW (m := m__law_roll) (CN := CN) F sc (by decide) len__law_roll (fun cdv A outer s H E C hr tk =>
    (pds_cons (pds_asg (ps_asg (pd_ix ix_seq rl_ix (pd_lst (pda_cons pd_int (pda_cons (pd_ix ix_seq rl_ix (dv 1) pd_int) (pda_cons (pd_callW c__law_draw hr (by decide) tk (pv 0) (pda_cons (pd_op or_add rl_add (pd_ix ix_seq rl_ix (dv 1) pd_int) pd_int) pda_nil)) pda_nil)))) (pd_callB (call_min2 rfl) rc_min g.b_min (by decide +kernel) (pda_cons pd_int (pda_cons (pd_callW c__law_draw hr (by decide) tk (pv 0) (pda_cons pd_int pda_nil)) pda_nil)))) (dg 3 sc.nd)))
    (pds_cons (pds_asg (ps_asg (pd_ix ix_seq rl_ix (pd_lst (pda_cons pd_int (pda_cons (pd_ix ix_seq rl_ix (dv 1) pd_int) (pda_cons (pd_callW c__law_draw hr (by decide) tk (pv 0) (pda_cons (pd_op or_add rl_add (pd_ix ix_seq rl_ix (dv 1) pd_int) pd_int) pda_nil)) pda_nil)))) (pd_callB (call_min2 rfl) rc_min g.b_min (by decide +kernel) (pda_cons pd_int (pda_cons (pd_callW c__law_draw hr (by decide) tk (pv 0) (pda_cons pd_int pda_nil)) pda_nil)))) (dg 4 sc.nd)))
    (pds_cons (pds_par2 (ps_par2 (i := 5) (j := 6) rfl sc.nd rfl rfl (by decide) rfl rfl (pdar_cons (pdr_of (pd_op op_sub rl_sub (pd_callW c__law_draw hr (by decide) tk (pv 0) (pda_cons (pd_op or_add rl_add (pd_op or_mul rl_mul pd_int (dv 2)) pd_int) pda_nil)) (dv 2))) (pdar_cons (pdr_of (pd_op op_sub rl_sub (pd_callW c__law_draw hr (by decide) tk (pv 0) (pda_cons (pd_op or_add rl_add (pd_op or_mul rl_mul pd_int (dv 2)) pd_int) pda_nil)) (dv 2))) pdar_nil)) rfl))
    (pds_cons (pds_if (pdt_cmp (or_eqD (RoomG.u64 hr)) rl_eq (pd_callW c__law_draw hr (by decide) tk (pv 0) (pda_cons pd_int pda_nil)) pd_int (nomark _)) (pds_one (pds_asg (ps_asg pd_int (dg 5 sc.nd)))) (pds_one (pds_if (pdt_cmp (or_eqD (RoomG.u64 hr)) rl_eq (pd_callW c__law_draw hr (by decide) tk (pv 0) (pda_cons pd_int pda_nil)) pd_int (nomark _)) (pds_one (pds_asg (ps_asg pd_int (dg 6 sc.nd)))) pds_nil)))
    (pds_one (pds_ret (pdr_of (pd_ifE (pdt_cmp (or_neD (RoomG.u64 hr)) rl_ne (pd_tup (pda_cons (dv 5) (pda_cons (dv 6) pda_nil))) (pd_tup (pda_cons pd_int (pda_cons pd_int pda_nil))) (nomark _)) (pd_tup (pda_cons (dv 3) (pda_cons (dv 4) (pda_cons (dv 5) (pda_cons (dv 6) pda_nil))))) (pd_tup (pda_cons (dv 3) (pda_cons (dv 4) (pda_cons pd_int (pda_cons pd_int pda_nil)))))))))))))) rd__law_roll
end
end LW
namespace LW
open PySem PySem.Spec PyProof.Rows L2 DL
def m__law_called (W : WD) : MS :=
  mSeq (mIf (mT (mOp2 opEq (mVar 0) (mC (.int 0)))) (mDrop (mCall D_is_shot W (mCons (mVar 1) (mCons (mVar 2) (mNil))))) (mNext))
  (mSeq (mIf (mT (mOp2 opEq (mVar 0) (mC (.int 1)))) (mDrop (mCall D_place_at W (mCons (mVar 1) (mCons (mVar 2) (mCons (mVar 3) (mNil)))))) (mNext))
  (mSeq (mIf (mT (mOp2 opEq (mVar 0) (mC (.int 2)))) (mDrop (mCallK D_way_at W (gSel 0 3 [.k 2, .k 1, .k 0]) mNil (mCons (mVar 3) (mCons (mVar 2) (mCons (mVar 1) (mNil)))))) (mNext))
  (mSeq (mIf (mT (mOp2 opEq (mVar 0) (mC (.int 3)))) (mDrop (mCall D_shot_at W (mCons (mVar 1) (mCons (mVar 2) (mCons (mVar 3) (mNil)))))) (mNext))
  (mSeq (mIf (mT (mOp2 opEq (mVar 0) (mC (.int 4)))) (mDrop (mCallK D_scaled W (gSel 2 1 [.p 0, .p 1, .k 0]) (mCons (mVar 1) (mCons (mVar 2) (mNil))) (mCons (mVar 3) (mNil)))) (mNext))
  (mSeq (mIf (mT (mOp2 opEq (mVar 0) (mC (.int 5)))) (mDrop (mCallK D_crossed W (gSel 0 2 [.k 1, .k 0]) mNil (mCons (mVar 2) (mCons (mVar 1) (mNil))))) (mNext))
  (mSeq (mIf (mT (mOp2 opEq (mVar 0) (mC (.int 6)))) (mDrop (mCall D_turned W (mCons (mVar 2) (mNil)))) (mNext))
  (mIf (mT (mOp2 opEq (mVar 0) (mC (.int 7)))) (mDrop (mCall D_folded W (mCons (mVar 1) (mCons (mVar 3) (mNil))))) (mNext))))))))
def isNum : PyData → Bool
  | .int j => decide (1 ≤ j)
  | _ => false
/-- the error that is due -/
def dueOf (w : Int) (a b c : PyData) : Option String :=
  if w = 6 then (if isAny b = true then none else some "InvalidShot")
  else if w = 7 then (if isNum a = true then (if isFrac c = true then none else some "InvalidTime") else some "InvalidSide")
  else if isTab a = true then
    (if w = 0 then none else if isShot a b = true then
      (if w = 5 then none else if w = 4 then (if isNum c = true then none else some "InvalidNumber") else if isFrac c = true then none else some "InvalidTime")
      else some "InvalidShot")
  else some "InvalidTable"
def szN : PyData → Prop
  | .int j => sz 1000 j
  | _ => True
def D__law_called : PSpec := fun ds Q E => ∃ w a b c, ds = [.int w, a, b, c] ∧ 0 ≤ w ∧ w ≤ 7 ∧ (∀ e, dueOf w a b c = some e → E e) ∧ (dueOf w a b c = none → szD a ∧ szD b ∧ szD c ∧ szN a ∧ szN c ∧ Q (.va .none))
theorem len__law_called : ∀ ds Q E, D__law_called ds Q E → ds.length = 4 := by
  rintro _ Q E ⟨w, a, b, c, rfl, _⟩
  rfl
theorem isNum_inv {c : PyData} (h : isNum c = true) : ∃ j, c = .int j ∧ 1 ≤ j := by
  cases c with
  | int j => exact ⟨j, rfl, by simpa [isNum] using h⟩
  | _ => cases h
theorem notNum {c : PyData} (h : isNum c = false) : ∀ j : Int, c = .int j → j < 1 := by
  rintro j rfl
  simp only [isNum, decide_eq_false_iff_not] at h
  omega
theorem rd__law_called : ∀ ds Q E, D__law_called ds Q E → m__law_called (fun c _ => E c) (endP Q) (slots0 4 ds) := by
  rintro _ Q E ⟨w, a, b, c, rfl, w0, w1, he, hq⟩
  have cw : w = 0 ∨ w = 1 ∨ w = 2 ∨ w = 3 ∨ w = 4 ∨ w = 5 ∨ w = 6 ∨ w = 7 := by omega
  unfold m__law_called
  rcases cw with rfl | rfl | rfl | rfl | rfl | rfl | rfl | rfl
  · simp only [DL.mSeq, DL.mAsg, DL.mAsgR, DL.mAsgM, DL.mrs, DL.ssets, DL.mIf, DL.mRet, DL.mRetN, DL.mrOf, DL.mrLst, DL.mrCat, DL.mrCall, DL.mDrop, DL.mNext, DL.mBreak, DL.mCont, DL.mC, DL.mVar, DL.mOp2, DL.mOp1, DL.mAnd, DL.mOr, DL.mNot, DL.mIfE, DL.mChain, DL.mNil, DL.mCons, DL.mTup, DL.mLst, DL.mCallB, DL.mDict0, DL.mPart, DL.mNoPart, DL.mSl, DL.mCall, DL.mCallK, DL.mCallW, DL.mLenScr, DL.mWell, DL.mT, DL.mTAnd, DL.mTOr, DL.mTNot, DL.mTYes, DL.mgName, DL.mgNil_n, DL.mgCons_c, DL.mgTup_t, DL.mgTup_l, DL.miSeq, DL.miRng1, DL.miRng2, DL.mRaise, DL.mApp, DL.mFor, DL.mLc, DL.mrLc, DL.sget, DL.sset, DL.slots0, DL.slotsW, DL.endP, DL.endW, DL.endL, DL.wF, DL.fz_va, DL.fz_own, List.length_cons, List.length_nil, List.map_cons, List.map_nil, List.replicate_succ, List.replicate_zero, Nat.reduceAdd, Nat.reduceSub, Nat.reduceLeDiff, List.cons_append, List.nil_append, Nat.zero_add, Nat.add_zero, Nat.sub_self, Option.some.injEq, PyData.bool.injEq, PyData.int.injEq, PyData.tuple.injEq, PyData.list.injEq, PyData.str.injEq, List.cons.injEq, DL.S.va.injEq, DL.S.own.injEq, DL.S.well.injEq, DL.S.scr.injEq, and_true, true_and, exists_eq_left', exists_eq_left, exists_eq_right, exists_eq_right', exists_and_left, exists_and_right, exists_eq, exists_eq', reduceCtorEq, false_and, and_false, exists_const, if_true, if_false, Bool.false_eq_true, reduceIte, Bool.not_true, Bool.not_false, DL.bIsi, List.any_cons, List.any_nil, Bool.or_false, Bool.or_true, Bool.false_or, Bool.true_or, DL.isK, DL.opAdd_i, DL.opSub_i, DL.opLt_i, DL.opLe_i, DL.opGt_i, DL.opGe_i, DL.opEq_int, DL.opNe_int, DL.opEq_b, DL.opNe_b, DL.opEq_nn, beq_self_eq_true, DL.opEq_str, DL.opNe_str, DL.opIsN_n, DL.opNotN_n, DL.isN, DL.opIsB_b, DL.opNotB_b, DL.opNeg_i, DL.bAbs_i, DL.bMax_i, DL.bMin_i, DL.bInt_i, DL.bGcd_i, DL.bLen_l, DL.bLen_t, DL.opAdd_t, DL.opAdd_l, DL.opIx_l, DL.opIx_t, DL.opSl_t, DL.opSl_l, DL.opRev_t, DL.opRev_l, DL.bList_l, DL.bList_t, DL.bTup_l, DL.bTup_t, DL.atI0, DL.atI1, DL.atI2, DL.atI3, DL.items_t, DL.items_l]
    simp only [Int.reduceEq, decide_false, decide_true, Bool.false_eq_true, if_false, if_true]
    exact ⟨a, b, rfl, fun h => he _ (by simp [dueOf, h]), fun h => ⟨⟨_, rfl⟩, (hq (by simp [dueOf, h])).2.2.2.2.2⟩⟩
  · simp only [DL.mSeq, DL.mAsg, DL.mAsgR, DL.mAsgM, DL.mrs, DL.ssets, DL.mIf, DL.mRet, DL.mRetN, DL.mrOf, DL.mrLst, DL.mrCat, DL.mrCall, DL.mDrop, DL.mNext, DL.mBreak, DL.mCont, DL.mC, DL.mVar, DL.mOp2, DL.mOp1, DL.mAnd, DL.mOr, DL.mNot, DL.mIfE, DL.mChain, DL.mNil, DL.mCons, DL.mTup, DL.mLst, DL.mCallB, DL.mDict0, DL.mPart, DL.mNoPart, DL.mSl, DL.mCall, DL.mCallK, DL.mCallW, DL.mLenScr, DL.mWell, DL.mT, DL.mTAnd, DL.mTOr, DL.mTNot, DL.mTYes, DL.mgName, DL.mgNil_n, DL.mgCons_c, DL.mgTup_t, DL.mgTup_l, DL.miSeq, DL.miRng1, DL.miRng2, DL.mRaise, DL.mApp, DL.mFor, DL.mLc, DL.mrLc, DL.sget, DL.sset, DL.slots0, DL.slotsW, DL.endP, DL.endW, DL.endL, DL.wF, DL.fz_va, DL.fz_own, List.length_cons, List.length_nil, List.map_cons, List.map_nil, List.replicate_succ, List.replicate_zero, Nat.reduceAdd, Nat.reduceSub, Nat.reduceLeDiff, List.cons_append, List.nil_append, Nat.zero_add, Nat.add_zero, Nat.sub_self, Option.some.injEq, PyData.bool.injEq, PyData.int.injEq, PyData.tuple.injEq, PyData.list.injEq, PyData.str.injEq, List.cons.injEq, DL.S.va.injEq, DL.S.own.injEq, DL.S.well.injEq, DL.S.scr.injEq, and_true, true_and, exists_eq_left', exists_eq_left, exists_eq_right, exists_eq_right', exists_and_left, exists_and_right, exists_eq, exists_eq', reduceCtorEq, false_and, and_false, exists_const, if_true, if_false, Bool.false_eq_true, reduceIte, Bool.not_true, Bool.not_false, DL.bIsi, List.any_cons, List.any_nil, Bool.or_false, Bool.or_true, Bool.false_or, Bool.true_or, DL.isK, DL.opAdd_i, DL.opSub_i, DL.opLt_i, DL.opLe_i, DL.opGt_i, DL.opGe_i, DL.opEq_int, DL.opNe_int, DL.opEq_b, DL.opNe_b, DL.opEq_nn, beq_self_eq_true, DL.opEq_str, DL.opNe_str, DL.opIsN_n, DL.opNotN_n, DL.isN, DL.opIsB_b, DL.opNotB_b, DL.opNeg_i, DL.bAbs_i, DL.bMax_i, DL.bMin_i, DL.bInt_i, DL.bGcd_i, DL.bLen_l, DL.bLen_t, DL.opAdd_t, DL.opAdd_l, DL.opIx_l, DL.opIx_t, DL.opSl_t, DL.opSl_l, DL.opRev_t, DL.opRev_l, DL.bList_l, DL.bList_t, DL.bTup_l, DL.bTup_t, DL.atI0, DL.atI1, DL.atI2, DL.atI3, DL.items_t, DL.items_l]
    simp only [Int.reduceEq, decide_false, decide_true, Bool.false_eq_true, if_false, if_true]
    refine ⟨a, b, c, rfl, fun h => he _ (by simp [dueOf, h]), fun h1 h2 => he _ (by simp [dueOf, h1, h2]), fun h1 h2 h3 => he _ (by simp [dueOf, h1, h2, h3]), fun h1 h2 h3 => ?_⟩
    obtain ⟨z1, z2, z3, -, -, q⟩ := hq (by simp [dueOf, h1, h2, h3])
    exact ⟨z1, z2, z3, ⟨_, rfl⟩, q⟩
  · simp only [DL.mSeq, DL.mAsg, DL.mAsgR, DL.mAsgM, DL.mrs, DL.ssets, DL.mIf, DL.mRet, DL.mRetN, DL.mrOf, DL.mrLst, DL.mrCat, DL.mrCall, DL.mDrop, DL.mNext, DL.mBreak, DL.mCont, DL.mC, DL.mVar, DL.mOp2, DL.mOp1, DL.mAnd, DL.mOr, DL.mNot, DL.mIfE, DL.mChain, DL.mNil, DL.mCons, DL.mTup, DL.mLst, DL.mCallB, DL.mDict0, DL.mPart, DL.mNoPart, DL.mSl, DL.mCall, DL.mCallK, DL.mCallW, DL.mLenScr, DL.mWell, DL.mT, DL.mTAnd, DL.mTOr, DL.mTNot, DL.mTYes, DL.mgName, DL.mgNil_n, DL.mgCons_c, DL.mgTup_t, DL.mgTup_l, DL.miSeq, DL.miRng1, DL.miRng2, DL.mRaise, DL.mApp, DL.mFor, DL.mLc, DL.mrLc, DL.sget, DL.sset, DL.slots0, DL.slotsW, DL.endP, DL.endW, DL.endL, DL.wF, DL.fz_va, DL.fz_own, List.length_cons, List.length_nil, List.map_cons, List.map_nil, List.replicate_succ, List.replicate_zero, Nat.reduceAdd, Nat.reduceSub, Nat.reduceLeDiff, List.cons_append, List.nil_append, Nat.zero_add, Nat.add_zero, Nat.sub_self, Option.some.injEq, PyData.bool.injEq, PyData.int.injEq, PyData.tuple.injEq, PyData.list.injEq, PyData.str.injEq, List.cons.injEq, DL.S.va.injEq, DL.S.own.injEq, DL.S.well.injEq, DL.S.scr.injEq, and_true, true_and, exists_eq_left', exists_eq_left, exists_eq_right, exists_eq_right', exists_and_left, exists_and_right, exists_eq, exists_eq', reduceCtorEq, false_and, and_false, exists_const, if_true, if_false, Bool.false_eq_true, reduceIte, Bool.not_true, Bool.not_false, DL.bIsi, List.any_cons, List.any_nil, Bool.or_false, Bool.or_true, Bool.false_or, Bool.true_or, DL.isK, DL.opAdd_i, DL.opSub_i, DL.opLt_i, DL.opLe_i, DL.opGt_i, DL.opGe_i, DL.opEq_int, DL.opNe_int, DL.opEq_b, DL.opNe_b, DL.opEq_nn, beq_self_eq_true, DL.opEq_str, DL.opNe_str, DL.opIsN_n, DL.opNotN_n, DL.isN, DL.opIsB_b, DL.opNotB_b, DL.opNeg_i, DL.bAbs_i, DL.bMax_i, DL.bMin_i, DL.bInt_i, DL.bGcd_i, DL.bLen_l, DL.bLen_t, DL.opAdd_t, DL.opAdd_l, DL.opIx_l, DL.opIx_t, DL.opSl_t, DL.opSl_l, DL.opRev_t, DL.opRev_l, DL.bList_l, DL.bList_t, DL.bTup_l, DL.bTup_t, DL.atI0, DL.atI1, DL.atI2, DL.atI3, DL.items_t, DL.items_l]
    simp only [Int.reduceEq, decide_false, decide_true, Bool.false_eq_true, if_false, if_true]
    refine ⟨a, b, c, rfl, fun h => he _ (by simp [dueOf, h]), fun h1 h2 => he _ (by simp [dueOf, h1, h2]), fun h1 h2 h3 => he _ (by simp [dueOf, h1, h2, h3]), fun h1 h2 h3 => ?_⟩
    obtain ⟨z1, z2, z3, -, -, q⟩ := hq (by simp [dueOf, h1, h2, h3])
    exact ⟨z1, z2, z3, ⟨_, rfl⟩, q⟩
  · simp only [DL.mSeq, DL.mAsg, DL.mAsgR, DL.mAsgM, DL.mrs, DL.ssets, DL.mIf, DL.mRet, DL.mRetN, DL.mrOf, DL.mrLst, DL.mrCat, DL.mrCall, DL.mDrop, DL.mNext, DL.mBreak, DL.mCont, DL.mC, DL.mVar, DL.mOp2, DL.mOp1, DL.mAnd, DL.mOr, DL.mNot, DL.mIfE, DL.mChain, DL.mNil, DL.mCons, DL.mTup, DL.mLst, DL.mCallB, DL.mDict0, DL.mPart, DL.mNoPart, DL.mSl, DL.mCall, DL.mCallK, DL.mCallW, DL.mLenScr, DL.mWell, DL.mT, DL.mTAnd, DL.mTOr, DL.mTNot, DL.mTYes, DL.mgName, DL.mgNil_n, DL.mgCons_c, DL.mgTup_t, DL.mgTup_l, DL.miSeq, DL.miRng1, DL.miRng2, DL.mRaise, DL.mApp, DL.mFor, DL.mLc, DL.mrLc, DL.sget, DL.sset, DL.slots0, DL.slotsW, DL.endP, DL.endW, DL.endL, DL.wF, DL.fz_va, DL.fz_own, List.length_cons, List.length_nil, List.map_cons, List.map_nil, List.replicate_succ, List.replicate_zero, Nat.reduceAdd, Nat.reduceSub, Nat.reduceLeDiff, List.cons_append, List.nil_append, Nat.zero_add, Nat.add_zero, Nat.sub_self, Option.some.injEq, PyData.bool.injEq, PyData.int.injEq, PyData.tuple.injEq, PyData.list.injEq, PyData.str.injEq, List.cons.injEq, DL.S.va.injEq, DL.S.own.injEq, DL.S.well.injEq, DL.S.scr.injEq, and_true, true_and, exists_eq_left', exists_eq_left, exists_eq_right, exists_eq_right', exists_and_left, exists_and_right, exists_eq, exists_eq', reduceCtorEq, false_and, and_false, exists_const, if_true, if_false, Bool.false_eq_true, reduceIte, Bool.not_true, Bool.not_false, DL.bIsi, List.any_cons, List.any_nil, Bool.or_false, Bool.or_true, Bool.false_or, Bool.true_or, DL.isK, DL.opAdd_i, DL.opSub_i, DL.opLt_i, DL.opLe_i, DL.opGt_i, DL.opGe_i, DL.opEq_int, DL.opNe_int, DL.opEq_b, DL.opNe_b, DL.opEq_nn, beq_self_eq_true, DL.opEq_str, DL.opNe_str, DL.opIsN_n, DL.opNotN_n, DL.isN, DL.opIsB_b, DL.opNotB_b, DL.opNeg_i, DL.bAbs_i, DL.bMax_i, DL.bMin_i, DL.bInt_i, DL.bGcd_i, DL.bLen_l, DL.bLen_t, DL.opAdd_t, DL.opAdd_l, DL.opIx_l, DL.opIx_t, DL.opSl_t, DL.opSl_l, DL.opRev_t, DL.opRev_l, DL.bList_l, DL.bList_t, DL.bTup_l, DL.bTup_t, DL.atI0, DL.atI1, DL.atI2, DL.atI3, DL.items_t, DL.items_l]
    simp only [Int.reduceEq, decide_false, decide_true, Bool.false_eq_true, if_false, if_true]
    refine ⟨a, b, c, rfl, fun h => he _ (by simp [dueOf, h]), fun h1 h2 => he _ (by simp [dueOf, h1, h2]), fun h1 h2 h3 => he _ (by simp [dueOf, h1, h2, h3]), fun h1 h2 h3 => ?_⟩
    obtain ⟨z1, z2, z3, -, -, q⟩ := hq (by simp [dueOf, h1, h2, h3])
    exact ⟨z1, z2, z3, ⟨_, rfl⟩, q⟩
  · simp only [DL.mSeq, DL.mAsg, DL.mAsgR, DL.mAsgM, DL.mrs, DL.ssets, DL.mIf, DL.mRet, DL.mRetN, DL.mrOf, DL.mrLst, DL.mrCat, DL.mrCall, DL.mDrop, DL.mNext, DL.mBreak, DL.mCont, DL.mC, DL.mVar, DL.mOp2, DL.mOp1, DL.mAnd, DL.mOr, DL.mNot, DL.mIfE, DL.mChain, DL.mNil, DL.mCons, DL.mTup, DL.mLst, DL.mCallB, DL.mDict0, DL.mPart, DL.mNoPart, DL.mSl, DL.mCall, DL.mCallK, DL.mCallW, DL.mLenScr, DL.mWell, DL.mT, DL.mTAnd, DL.mTOr, DL.mTNot, DL.mTYes, DL.mgName, DL.mgNil_n, DL.mgCons_c, DL.mgTup_t, DL.mgTup_l, DL.miSeq, DL.miRng1, DL.miRng2, DL.mRaise, DL.mApp, DL.mFor, DL.mLc, DL.mrLc, DL.sget, DL.sset, DL.slots0, DL.slotsW, DL.endP, DL.endW, DL.endL, DL.wF, DL.fz_va, DL.fz_own, List.length_cons, List.length_nil, List.map_cons, List.map_nil, List.replicate_succ, List.replicate_zero, Nat.reduceAdd, Nat.reduceSub, Nat.reduceLeDiff, List.cons_append, List.nil_append, Nat.zero_add, Nat.add_zero, Nat.sub_self, Option.some.injEq, PyData.bool.injEq, PyData.int.injEq, PyData.tuple.injEq, PyData.list.injEq, PyData.str.injEq, List.cons.injEq, DL.S.va.injEq, DL.S.own.injEq, DL.S.well.injEq, DL.S.scr.injEq, and_true, true_and, exists_eq_left', exists_eq_left, exists_eq_right, exists_eq_right', exists_and_left, exists_and_right, exists_eq, exists_eq', reduceCtorEq, false_and, and_false, exists_const, if_true, if_false, Bool.false_eq_true, reduceIte, Bool.not_true, Bool.not_false, DL.bIsi, List.any_cons, List.any_nil, Bool.or_false, Bool.or_true, Bool.false_or, Bool.true_or, DL.isK, DL.opAdd_i, DL.opSub_i, DL.opLt_i, DL.opLe_i, DL.opGt_i, DL.opGe_i, DL.opEq_int, DL.opNe_int, DL.opEq_b, DL.opNe_b, DL.opEq_nn, beq_self_eq_true, DL.opEq_str, DL.opNe_str, DL.opIsN_n, DL.opNotN_n, DL.isN, DL.opIsB_b, DL.opNotB_b, DL.opNeg_i, DL.bAbs_i, DL.bMax_i, DL.bMin_i, DL.bInt_i, DL.bGcd_i, DL.bLen_l, DL.bLen_t, DL.opAdd_t, DL.opAdd_l, DL.opIx_l, DL.opIx_t, DL.opSl_t, DL.opSl_l, DL.opRev_t, DL.opRev_l, DL.bList_l, DL.bList_t, DL.bTup_l, DL.bTup_t, DL.atI0, DL.atI1, DL.atI2, DL.atI3, DL.items_t, DL.items_l]
    simp only [Int.reduceEq, decide_false, decide_true, Bool.false_eq_true, if_false, if_true]
    refine ⟨a, b, c, rfl, fun h => he _ (by simp [dueOf, h]), fun h1 h2 => he _ (by simp [dueOf, h1, h2]), fun h1 h2 h3 => he _ ?_, fun a1 b1 x y p q j e1 e2 e3 h1 h2 h3 => ?_⟩
    · have h4 : isNum c = false := by
        cases c with
        | int j => simpa [isNum] using h3 j rfl
        | _ => rfl
      simp [dueOf, h1, h2, h4]
    · have h4 : isNum c = true := by rw [e3]; simpa [isNum] using h3
      obtain ⟨z1, z2, -, -, z5, q⟩ := hq (by simp [dueOf, h1, h2, h4])
      rw [e3] at z5
      exact ⟨z1, z2, z5, ⟨_, rfl⟩, q⟩
  · simp only [DL.mSeq, DL.mAsg, DL.mAsgR, DL.mAsgM, DL.mrs, DL.ssets, DL.mIf, DL.mRet, DL.mRetN, DL.mrOf, DL.mrLst, DL.mrCat, DL.mrCall, DL.mDrop, DL.mNext, DL.mBreak, DL.mCont, DL.mC, DL.mVar, DL.mOp2, DL.mOp1, DL.mAnd, DL.mOr, DL.mNot, DL.mIfE, DL.mChain, DL.mNil, DL.mCons, DL.mTup, DL.mLst, DL.mCallB, DL.mDict0, DL.mPart, DL.mNoPart, DL.mSl, DL.mCall, DL.mCallK, DL.mCallW, DL.mLenScr, DL.mWell, DL.mT, DL.mTAnd, DL.mTOr, DL.mTNot, DL.mTYes, DL.mgName, DL.mgNil_n, DL.mgCons_c, DL.mgTup_t, DL.mgTup_l, DL.miSeq, DL.miRng1, DL.miRng2, DL.mRaise, DL.mApp, DL.mFor, DL.mLc, DL.mrLc, DL.sget, DL.sset, DL.slots0, DL.slotsW, DL.endP, DL.endW, DL.endL, DL.wF, DL.fz_va, DL.fz_own, List.length_cons, List.length_nil, List.map_cons, List.map_nil, List.replicate_succ, List.replicate_zero, Nat.reduceAdd, Nat.reduceSub, Nat.reduceLeDiff, List.cons_append, List.nil_append, Nat.zero_add, Nat.add_zero, Nat.sub_self, Option.some.injEq, PyData.bool.injEq, PyData.int.injEq, PyData.tuple.injEq, PyData.list.injEq, PyData.str.injEq, List.cons.injEq, DL.S.va.injEq, DL.S.own.injEq, DL.S.well.injEq, DL.S.scr.injEq, and_true, true_and, exists_eq_left', exists_eq_left, exists_eq_right, exists_eq_right', exists_and_left, exists_and_right, exists_eq, exists_eq', reduceCtorEq, false_and, and_false, exists_const, if_true, if_false, Bool.false_eq_true, reduceIte, Bool.not_true, Bool.not_false, DL.bIsi, List.any_cons, List.any_nil, Bool.or_false, Bool.or_true, Bool.false_or, Bool.true_or, DL.isK, DL.opAdd_i, DL.opSub_i, DL.opLt_i, DL.opLe_i, DL.opGt_i, DL.opGe_i, DL.opEq_int, DL.opNe_int, DL.opEq_b, DL.opNe_b, DL.opEq_nn, beq_self_eq_true, DL.opEq_str, DL.opNe_str, DL.opIsN_n, DL.opNotN_n, DL.isN, DL.opIsB_b, DL.opNotB_b, DL.opNeg_i, DL.bAbs_i, DL.bMax_i, DL.bMin_i, DL.bInt_i, DL.bGcd_i, DL.bLen_l, DL.bLen_t, DL.opAdd_t, DL.opAdd_l, DL.opIx_l, DL.opIx_t, DL.opSl_t, DL.opSl_l, DL.opRev_t, DL.opRev_l, DL.bList_l, DL.bList_t, DL.bTup_l, DL.bTup_t, DL.atI0, DL.atI1, DL.atI2, DL.atI3, DL.items_t, DL.items_l]
    simp only [Int.reduceEq, decide_false, decide_true, Bool.false_eq_true, if_false, if_true]
    exact ⟨a, b, rfl, fun h => he _ (by simp [dueOf, h]), fun h1 h2 => he _ (by simp [dueOf, h1, h2]), fun _ _ _ _ _ _ _ _ h1 h2 => ⟨⟨_, rfl⟩, (hq (by simp [dueOf, h1, h2])).2.2.2.2.2⟩⟩
  · simp only [DL.mSeq, DL.mAsg, DL.mAsgR, DL.mAsgM, DL.mrs, DL.ssets, DL.mIf, DL.mRet, DL.mRetN, DL.mrOf, DL.mrLst, DL.mrCat, DL.mrCall, DL.mDrop, DL.mNext, DL.mBreak, DL.mCont, DL.mC, DL.mVar, DL.mOp2, DL.mOp1, DL.mAnd, DL.mOr, DL.mNot, DL.mIfE, DL.mChain, DL.mNil, DL.mCons, DL.mTup, DL.mLst, DL.mCallB, DL.mDict0, DL.mPart, DL.mNoPart, DL.mSl, DL.mCall, DL.mCallK, DL.mCallW, DL.mLenScr, DL.mWell, DL.mT, DL.mTAnd, DL.mTOr, DL.mTNot, DL.mTYes, DL.mgName, DL.mgNil_n, DL.mgCons_c, DL.mgTup_t, DL.mgTup_l, DL.miSeq, DL.miRng1, DL.miRng2, DL.mRaise, DL.mApp, DL.mFor, DL.mLc, DL.mrLc, DL.sget, DL.sset, DL.slots0, DL.slotsW, DL.endP, DL.endW, DL.endL, DL.wF, DL.fz_va, DL.fz_own, List.length_cons, List.length_nil, List.map_cons, List.map_nil, List.replicate_succ, List.replicate_zero, Nat.reduceAdd, Nat.reduceSub, Nat.reduceLeDiff, List.cons_append, List.nil_append, Nat.zero_add, Nat.add_zero, Nat.sub_self, Option.some.injEq, PyData.bool.injEq, PyData.int.injEq, PyData.tuple.injEq, PyData.list.injEq, PyData.str.injEq, List.cons.injEq, DL.S.va.injEq, DL.S.own.injEq, DL.S.well.injEq, DL.S.scr.injEq, and_true, true_and, exists_eq_left', exists_eq_left, exists_eq_right, exists_eq_right', exists_and_left, exists_and_right, exists_eq, exists_eq', reduceCtorEq, false_and, and_false, exists_const, if_true, if_false, Bool.false_eq_true, reduceIte, Bool.not_true, Bool.not_false, DL.bIsi, List.any_cons, List.any_nil, Bool.or_false, Bool.or_true, Bool.false_or, Bool.true_or, DL.isK, DL.opAdd_i, DL.opSub_i, DL.opLt_i, DL.opLe_i, DL.opGt_i, DL.opGe_i, DL.opEq_int, DL.opNe_int, DL.opEq_b, DL.opNe_b, DL.opEq_nn, beq_self_eq_true, DL.opEq_str, DL.opNe_str, DL.opIsN_n, DL.opNotN_n, DL.isN, DL.opIsB_b, DL.opNotB_b, DL.opNeg_i, DL.bAbs_i, DL.bMax_i, DL.bMin_i, DL.bInt_i, DL.bGcd_i, DL.bLen_l, DL.bLen_t, DL.opAdd_t, DL.opAdd_l, DL.opIx_l, DL.opIx_t, DL.opSl_t, DL.opSl_l, DL.opRev_t, DL.opRev_l, DL.bList_l, DL.bList_t, DL.bTup_l, DL.bTup_t, DL.atI0, DL.atI1, DL.atI2, DL.atI3, DL.items_t, DL.items_l]
    simp only [Int.reduceEq, decide_false, decide_true, Bool.false_eq_true, if_false, if_true]
    exact ⟨b, rfl, fun h => he _ (by simp [dueOf, h]), fun _ _ _ _ _ h => ⟨⟨_, rfl⟩, (hq (by simp [dueOf, h])).2.2.2.2.2⟩⟩
  · simp only [DL.mSeq, DL.mAsg, DL.mAsgR, DL.mAsgM, DL.mrs, DL.ssets, DL.mIf, DL.mRet, DL.mRetN, DL.mrOf, DL.mrLst, DL.mrCat, DL.mrCall, DL.mDrop, DL.mNext, DL.mBreak, DL.mCont, DL.mC, DL.mVar, DL.mOp2, DL.mOp1, DL.mAnd, DL.mOr, DL.mNot, DL.mIfE, DL.mChain, DL.mNil, DL.mCons, DL.mTup, DL.mLst, DL.mCallB, DL.mDict0, DL.mPart, DL.mNoPart, DL.mSl, DL.mCall, DL.mCallK, DL.mCallW, DL.mLenScr, DL.mWell, DL.mT, DL.mTAnd, DL.mTOr, DL.mTNot, DL.mTYes, DL.mgName, DL.mgNil_n, DL.mgCons_c, DL.mgTup_t, DL.mgTup_l, DL.miSeq, DL.miRng1, DL.miRng2, DL.mRaise, DL.mApp, DL.mFor, DL.mLc, DL.mrLc, DL.sget, DL.sset, DL.slots0, DL.slotsW, DL.endP, DL.endW, DL.endL, DL.wF, DL.fz_va, DL.fz_own, List.length_cons, List.length_nil, List.map_cons, List.map_nil, List.replicate_succ, List.replicate_zero, Nat.reduceAdd, Nat.reduceSub, Nat.reduceLeDiff, List.cons_append, List.nil_append, Nat.zero_add, Nat.add_zero, Nat.sub_self, Option.some.injEq, PyData.bool.injEq, PyData.int.injEq, PyData.tuple.injEq, PyData.list.injEq, PyData.str.injEq, List.cons.injEq, DL.S.va.injEq, DL.S.own.injEq, DL.S.well.injEq, DL.S.scr.injEq, and_true, true_and, exists_eq_left', exists_eq_left, exists_eq_right, exists_eq_right', exists_and_left, exists_and_right, exists_eq, exists_eq', reduceCtorEq, false_and, and_false, exists_const, if_true, if_false, Bool.false_eq_true, reduceIte, Bool.not_true, Bool.not_false, DL.bIsi, List.any_cons, List.any_nil, Bool.or_false, Bool.or_true, Bool.false_or, Bool.true_or, DL.isK, DL.opAdd_i, DL.opSub_i, DL.opLt_i, DL.opLe_i, DL.opGt_i, DL.opGe_i, DL.opEq_int, DL.opNe_int, DL.opEq_b, DL.opNe_b, DL.opEq_nn, beq_self_eq_true, DL.opEq_str, DL.opNe_str, DL.opIsN_n, DL.opNotN_n, DL.isN, DL.opIsB_b, DL.opNotB_b, DL.opNeg_i, DL.bAbs_i, DL.bMax_i, DL.bMin_i, DL.bInt_i, DL.bGcd_i, DL.bLen_l, DL.bLen_t, DL.opAdd_t, DL.opAdd_l, DL.opIx_l, DL.opIx_t, DL.opSl_t, DL.opSl_l, DL.opRev_t, DL.opRev_l, DL.bList_l, DL.bList_t, DL.bTup_l, DL.bTup_t, DL.atI0, DL.atI1, DL.atI2, DL.atI3, DL.items_t, DL.items_l]
    simp only [Int.reduceEq, decide_false, decide_true, Bool.false_eq_true, if_false, if_true]
    refine ⟨a, c, rfl, fun h => he _ ?_, fun j e h1 h2 => he _ ?_, fun j n m e1 e2 h1 h2 => ?_⟩
    · have h4 : isNum a = false := by
        cases a with
        | int j => simpa [isNum] using h j rfl
        | _ => rfl
      simp [dueOf, h4]
    · have h4 : isNum a = true := by rw [e]; simpa [isNum] using h1
      simp [dueOf, h4, h2]
    · have h4 : isNum a = true := by rw [e1]; simpa [isNum] using h1
      obtain ⟨-, -, z3, z4, -, q⟩ := hq (by simp [dueOf, h4, h2])
      rw [e1] at z4
      rw [e2] at z3
      exact ⟨sz_mono z4 (by decide), sz_mono z3.2 (by decide), ⟨_, rfl⟩, q⟩
section
variable {P : Program} {w : World} {K : PySem.W.Frag} {mg : Str → Option Value} {base : Heap} {CN : String → Option Addr}
theorem ok__law_called {f : Addr} {fd : FuncData} (F : Fun K "_law_called" "_law_called" s__law_called f fd) (g : G K mg CN) (c_folded : CalP P w K mg base CN 5 "folded" D_folded) (c_is_shot : CalP P w K mg base CN 5 "is_shot" D_is_shot) (c_place_at : CalP P w K mg base CN 8 "place_at" D_place_at) (c_shot_at : CalP P w K mg base CN 8 "shot_at" D_shot_at) (c_turned : CalP P w K mg base CN 4 "turned" D_turned) (kc_way_at_0_time_shot_table : CalK P w K mg base CN 8 "way_at" D_way_at ["time", "shot", "table"] (gSel 0 3 [.k 2, .k 1, .k 0])) (kc_scaled_2_many : CalK P w K mg base CN 7 "scaled" D_scaled ["many"] (gSel 2 1 [.p 0, .p 1, .k 0])) (kc_crossed_0_shot_table : CalK P w K mg base CN 7 "crossed" D_crossed ["shot", "table"] (gSel 0 2 [.k 1, .k 0])) : FnG P w K mg base 9 f fd ["way", "a", "b", "c"] (spP K CN D__law_called) := by
  have sc := sc__law_called
  exact fun_okP (m := m__law_called) F sc (by decide) len__law_called (fun cdv A outer s H E C W hw hr tk =>
    (pds_cons (pds_if (pdt_cmp (or_eqD (RoomG.u64 hr)) rl_eq (dv 0) pd_int (nomark _)) (pds_one (pds_drop (pd_call c_is_shot hr (by decide) tk (pda_cons (dv 1) (pda_cons (dv 2) pda_nil))))) pds_nil)
    (pds_cons (pds_if (pdt_cmp (or_eqD (RoomG.u64 hr)) rl_eq (dv 0) pd_int (nomark _)) (pds_one (pds_drop (pd_call c_place_at hr (by decide) tk (pda_cons (dv 1) (pda_cons (dv 2) (pda_cons (dv 3) pda_nil)))))) pds_nil)
    (pds_cons (pds_if (pdt_cmp (or_eqD (RoomG.u64 hr)) rl_eq (dv 0) pd_int (nomark _)) (pds_one (pds_drop (pd_callK0 kc_way_at_0_time_shot_table hr (by decide) tk (pdk_cons (dv 3) (pdk_cons (dv 2) (pdk_cons (dv 1) pdk_nil)))))) pds_nil)
    (pds_cons (pds_if (pdt_cmp (or_eqD (RoomG.u64 hr)) rl_eq (dv 0) pd_int (nomark _)) (pds_one (pds_drop (pd_call c_shot_at hr (by decide) tk (pda_cons (dv 1) (pda_cons (dv 2) (pda_cons (dv 3) pda_nil)))))) pds_nil)
    (pds_cons (pds_if (pdt_cmp (or_eqD (RoomG.u64 hr)) rl_eq (dv 0) pd_int (nomark _)) (pds_one (pds_drop (pd_callK kc_scaled_2_many hr (by decide) tk (pda_cons (dv 1) (pda_cons (dv 2) pda_nil)) (pdk_cons (dv 3) pdk_nil)))) pds_nil)
    (pds_cons (pds_if (pdt_cmp (or_eqD (RoomG.u64 hr)) rl_eq (dv 0) pd_int (nomark _)) (pds_one (pds_drop (pd_callK0 kc_crossed_0_shot_table hr (by decide) tk (pdk_cons (dv 2) (pdk_cons (dv 1) pdk_nil))))) pds_nil)
    (pds_cons (pds_if (pdt_cmp (or_eqD (RoomG.u64 hr)) rl_eq (dv 0) pd_int (nomark _)) (pds_one (pds_drop (pd_call c_turned hr (by decide) tk (pda_cons (dv 2) pda_nil)))) pds_nil)
    (pds_one (pds_if (pdt_cmp (or_eqD (RoomG.u64 hr)) rl_eq (dv 0) pd_int (nomark _)) (pds_one (pds_drop (pd_call c_folded hr (by decide) tk (pda_cons (dv 1) (pda_cons (dv 3) pda_nil))))) pds_nil)))))))))) rd__law_called
end
end LW
namespace LW
open PySem PySem.Spec PyProof.Rows L2 DL
def m__law_told (W : WD) : MS :=
  mTry (fun Wd => mSeq (mDrop (mCall D__law_called Wd (mCons (mVar 0) (mCons (mVar 1) (mCons (mVar 2) (mCons (mVar 3) (mNil)))))))
  (mRet (mrOf (mC (.str "none"))))) 5 (fun c => isSub c "ShotError") (fun c a => mSeq (mAsgR 4 (mrLst (mCons (mIsE 5 a (isSub c "InvalidTable")) (mCons (mIsE 5 a (isSub c "InvalidShot")) (mNil)))))
  (mSeq (mAsgR 4 (mrCat (mVar 4) (mLst (mCons (mIsE 5 a (isSub c "InvalidSide")) (mCons (mIsE 5 a (isSub c "InvalidTime")) (mNil))))))
  (mSeq (mApp 4 (mIsE 5 a (isSub c "InvalidNumber")))
  (mSeq (mIf (mTOr (mTNot (mT (mIsE 5 a (isSub c "ValueError")))) (mT (mOp2 opNe (mMeth opCnt (mVar 4) (mC (.bool true))) (mC (.int 1))))) (mRet (mrOf (mC (.str "other")))) (mNext))
  (mRet (mrOf (mOp2 opIx (mLst (mCons (mC (.str "table")) (mCons (mC (.str "shot")) (mCons (mC (.str "side")) (mCons (mC (.str "time")) (mCons (mC (.str "number")) (mNil))))))) (mMeth opIdx (mVar 4) (mC (.bool true)))))))))) W
def sayOf : Option String → PyData
  | none => .str "none"
  | some "InvalidTable" => .str "table"
  | some "InvalidShot" => .str "shot"
  | some "InvalidSide" => .str "side"
  | some "InvalidTime" => .str "time"
  | some "InvalidNumber" => .str "number"
  | _ => .none
def D__law_told : PSpec := fun ds Q _ => ∃ w a b c, ds = [.int w, a, b, c] ∧ 0 ≤ w ∧ w ≤ 7 ∧ (dueOf w a b c = none → szD a ∧ szD b ∧ szD c ∧ szN a ∧ szN c) ∧ Q (.va (sayOf (dueOf w a b c)))
theorem len__law_told : ∀ ds Q E, D__law_told ds Q E → ds.length = 4 := by
  rintro _ Q E ⟨w, a, b, c, rfl, _⟩
  rfl
theorem rd__law_told : ∀ ds Q E, D__law_told ds Q E → m__law_told (fun c _ => E c) (endP Q) (slots0 6 ds) := by
  rintro _ Q E ⟨w, a, b, c, rfl, w0, w1, hz, hq⟩
  unfold m__law_told mTry
  simp only [DL.mSeq, DL.mAsg, DL.mAsgR, DL.mAsgM, DL.mrs, DL.ssets, DL.mIf, DL.mRet, DL.mRetN, DL.mrOf, DL.mrLst, DL.mrCat, DL.mrCall, DL.mDrop, DL.mNext, DL.mBreak, DL.mCont, DL.mC, DL.mVar, DL.mOp2, DL.mOp1, DL.mAnd, DL.mOr, DL.mNot, DL.mIfE, DL.mChain, DL.mNil, DL.mCons, DL.mTup, DL.mLst, DL.mCallB, DL.mDict0, DL.mPart, DL.mNoPart, DL.mSl, DL.mCall, DL.mCallK, DL.mCallW, DL.mLenScr, DL.mWell, DL.mT, DL.mTAnd, DL.mTOr, DL.mTNot, DL.mTYes, DL.mgName, DL.mgNil_n, DL.mgCons_c, DL.mgTup_t, DL.mgTup_l, DL.miSeq, DL.miRng1, DL.miRng2, DL.mRaise, DL.mApp, DL.mFor, DL.mLc, DL.mrLc, DL.sget, DL.sset, DL.slots0, DL.slotsW, DL.endP, DL.endW, DL.endL, DL.wF, DL.fz_va, DL.fz_own, List.length_cons, List.length_nil, List.map_cons, List.map_nil, List.replicate_succ, List.replicate_zero, Nat.reduceAdd, Nat.reduceSub, Nat.reduceLeDiff, List.cons_append, List.nil_append, Nat.zero_add, Nat.add_zero, Nat.sub_self, Option.some.injEq, PyData.bool.injEq, PyData.int.injEq, PyData.tuple.injEq, PyData.list.injEq, PyData.str.injEq, List.cons.injEq, DL.S.va.injEq, DL.S.own.injEq, DL.S.well.injEq, DL.S.scr.injEq, and_true, true_and, exists_eq_left', exists_eq_left, exists_eq_right, exists_eq_right', exists_and_left, exists_and_right, exists_eq, exists_eq', reduceCtorEq, false_and, and_false, exists_const, if_true, if_false, Bool.false_eq_true, reduceIte, Bool.not_true, Bool.not_false, DL.bIsi, List.any_cons, List.any_nil, Bool.or_false, Bool.or_true, Bool.false_or, Bool.true_or, DL.isK, DL.opAdd_i, DL.opSub_i, DL.opLt_i, DL.opLe_i, DL.opGt_i, DL.opGe_i, DL.opEq_int, DL.opNe_int, DL.opEq_b, DL.opNe_b, DL.opEq_nn, beq_self_eq_true, DL.opEq_str, DL.opNe_str, DL.opIsN_n, DL.opNotN_n, DL.isN, DL.opIsB_b, DL.opNotB_b, DL.opNeg_i, DL.bAbs_i, DL.bMax_i, DL.bMin_i, DL.bInt_i, DL.bGcd_i, DL.bLen_l, DL.bLen_t, DL.opAdd_t, DL.opAdd_l, DL.opIx_l, DL.opIx_t, DL.opSl_t, DL.opSl_l, DL.opRev_t, DL.opRev_l, DL.bList_l, DL.bList_t, DL.bTup_l, DL.bTup_t, DL.atI0, DL.atI1, DL.atI2, DL.atI3, DL.items_t, DL.items_l]
  refine ⟨w, a, b, c, rfl, w0, w1, fun e he => ?_, fun h => ?_⟩
  · have L : e = "InvalidTable" ∨ e = "InvalidShot" ∨ e = "InvalidSide" ∨ e = "InvalidTime" ∨ e = "InvalidNumber" := by
      unfold dueOf at he
      repeat' split at he
      all_goals first | (cases he; done) | (cases he; simp)
    rw [he] at hq
    rcases L with rfl | rfl | rfl | rfl | rfl
    · refine ⟨fun _ a2 => ?_, fun h => absurd h (by decide)⟩
      simp only [mIsE, mMeth]
      simp only [DL.mSeq, DL.mAsg, DL.mAsgR, DL.mAsgM, DL.mrs, DL.ssets, DL.mIf, DL.mRet, DL.mRetN, DL.mrOf, DL.mrLst, DL.mrCat, DL.mrCall, DL.mDrop, DL.mNext, DL.mBreak, DL.mCont, DL.mC, DL.mVar, DL.mOp2, DL.mOp1, DL.mAnd, DL.mOr, DL.mNot, DL.mIfE, DL.mChain, DL.mNil, DL.mCons, DL.mTup, DL.mLst, DL.mCallB, DL.mDict0, DL.mPart, DL.mNoPart, DL.mSl, DL.mCall, DL.mCallK, DL.mCallW, DL.mLenScr, DL.mWell, DL.mT, DL.mTAnd, DL.mTOr, DL.mTNot, DL.mTYes, DL.mgName, DL.mgNil_n, DL.mgCons_c, DL.mgTup_t, DL.mgTup_l, DL.miSeq, DL.miRng1, DL.miRng2, DL.mRaise, DL.mApp, DL.mFor, DL.mLc, DL.mrLc, DL.sget, DL.sset, DL.slots0, DL.slotsW, DL.endP, DL.endW, DL.endL, DL.wF, DL.fz_va, DL.fz_own, List.length_cons, List.length_nil, List.map_cons, List.map_nil, List.replicate_succ, List.replicate_zero, Nat.reduceAdd, Nat.reduceSub, Nat.reduceLeDiff, List.cons_append, List.nil_append, Nat.zero_add, Nat.add_zero, Nat.sub_self, Option.some.injEq, PyData.bool.injEq, PyData.int.injEq, PyData.tuple.injEq, PyData.list.injEq, PyData.str.injEq, List.cons.injEq, DL.S.va.injEq, DL.S.own.injEq, DL.S.well.injEq, DL.S.scr.injEq, and_true, true_and, exists_eq_left', exists_eq_left, exists_eq_right, exists_eq_right', exists_and_left, exists_and_right, exists_eq, exists_eq', reduceCtorEq, false_and, and_false, exists_const, if_true, if_false, Bool.false_eq_true, reduceIte, Bool.not_true, Bool.not_false, DL.bIsi, List.any_cons, List.any_nil, Bool.or_false, Bool.or_true, Bool.false_or, Bool.true_or, DL.isK, DL.opAdd_i, DL.opSub_i, DL.opLt_i, DL.opLe_i, DL.opGt_i, DL.opGe_i, DL.opEq_int, DL.opNe_int, DL.opEq_b, DL.opNe_b, DL.opEq_nn, beq_self_eq_true, DL.opEq_str, DL.opNe_str, DL.opIsN_n, DL.opNotN_n, DL.isN, DL.opIsB_b, DL.opNotB_b, DL.opNeg_i, DL.bAbs_i, DL.bMax_i, DL.bMin_i, DL.bInt_i, DL.bGcd_i, DL.bLen_l, DL.bLen_t, DL.opAdd_t, DL.opAdd_l, DL.opIx_l, DL.opIx_t, DL.opSl_t, DL.opSl_l, DL.opRev_t, DL.opRev_l, DL.bList_l, DL.bList_t, DL.bTup_l, DL.bTup_t, DL.atI0, DL.atI1, DL.atI2, DL.atI3, DL.items_t, DL.items_l]
      simp only [show isSub "InvalidTable" "InvalidTable" = true by decide, show isSub "InvalidTable" "InvalidShot" = false by decide, show isSub "InvalidTable" "InvalidSide" = false by decide, show isSub "InvalidTable" "InvalidTime" = false by decide, show isSub "InvalidTable" "InvalidNumber" = false by decide, show isSub "InvalidTable" "ValueError" = true by decide]
      refine ⟨by decide, ?_⟩
      rw [if_neg (by decide)]
      refine ⟨.int 1, rfl, _, opNe_int, _, rfl, ?_⟩
      rw [if_neg (by decide)]
      exact ⟨.int 0, rfl, _, rfl, hq⟩
    · refine ⟨fun _ a2 => ?_, fun h => absurd h (by decide)⟩
      simp only [mIsE, mMeth]
      simp only [DL.mSeq, DL.mAsg, DL.mAsgR, DL.mAsgM, DL.mrs, DL.ssets, DL.mIf, DL.mRet, DL.mRetN, DL.mrOf, DL.mrLst, DL.mrCat, DL.mrCall, DL.mDrop, DL.mNext, DL.mBreak, DL.mCont, DL.mC, DL.mVar, DL.mOp2, DL.mOp1, DL.mAnd, DL.mOr, DL.mNot, DL.mIfE, DL.mChain, DL.mNil, DL.mCons, DL.mTup, DL.mLst, DL.mCallB, DL.mDict0, DL.mPart, DL.mNoPart, DL.mSl, DL.mCall, DL.mCallK, DL.mCallW, DL.mLenScr, DL.mWell, DL.mT, DL.mTAnd, DL.mTOr, DL.mTNot, DL.mTYes, DL.mgName, DL.mgNil_n, DL.mgCons_c, DL.mgTup_t, DL.mgTup_l, DL.miSeq, DL.miRng1, DL.miRng2, DL.mRaise, DL.mApp, DL.mFor, DL.mLc, DL.mrLc, DL.sget, DL.sset, DL.slots0, DL.slotsW, DL.endP, DL.endW, DL.endL, DL.wF, DL.fz_va, DL.fz_own, List.length_cons, List.length_nil, List.map_cons, List.map_nil, List.replicate_succ, List.replicate_zero, Nat.reduceAdd, Nat.reduceSub, Nat.reduceLeDiff, List.cons_append, List.nil_append, Nat.zero_add, Nat.add_zero, Nat.sub_self, Option.some.injEq, PyData.bool.injEq, PyData.int.injEq, PyData.tuple.injEq, PyData.list.injEq, PyData.str.injEq, List.cons.injEq, DL.S.va.injEq, DL.S.own.injEq, DL.S.well.injEq, DL.S.scr.injEq, and_true, true_and, exists_eq_left', exists_eq_left, exists_eq_right, exists_eq_right', exists_and_left, exists_and_right, exists_eq, exists_eq', reduceCtorEq, false_and, and_false, exists_const, if_true, if_false, Bool.false_eq_true, reduceIte, Bool.not_true, Bool.not_false, DL.bIsi, List.any_cons, List.any_nil, Bool.or_false, Bool.or_true, Bool.false_or, Bool.true_or, DL.isK, DL.opAdd_i, DL.opSub_i, DL.opLt_i, DL.opLe_i, DL.opGt_i, DL.opGe_i, DL.opEq_int, DL.opNe_int, DL.opEq_b, DL.opNe_b, DL.opEq_nn, beq_self_eq_true, DL.opEq_str, DL.opNe_str, DL.opIsN_n, DL.opNotN_n, DL.isN, DL.opIsB_b, DL.opNotB_b, DL.opNeg_i, DL.bAbs_i, DL.bMax_i, DL.bMin_i, DL.bInt_i, DL.bGcd_i, DL.bLen_l, DL.bLen_t, DL.opAdd_t, DL.opAdd_l, DL.opIx_l, DL.opIx_t, DL.opSl_t, DL.opSl_l, DL.opRev_t, DL.opRev_l, DL.bList_l, DL.bList_t, DL.bTup_l, DL.bTup_t, DL.atI0, DL.atI1, DL.atI2, DL.atI3, DL.items_t, DL.items_l]
      simp only [show isSub "InvalidShot" "InvalidTable" = false by decide, show isSub "InvalidShot" "InvalidShot" = true by decide, show isSub "InvalidShot" "InvalidSide" = false by decide, show isSub "InvalidShot" "InvalidTime" = false by decide, show isSub "InvalidShot" "InvalidNumber" = false by decide, show isSub "InvalidShot" "ValueError" = true by decide]
      refine ⟨by decide, ?_⟩
      rw [if_neg (by decide)]
      refine ⟨.int 1, rfl, _, opNe_int, _, rfl, ?_⟩
      rw [if_neg (by decide)]
      exact ⟨.int 1, rfl, _, rfl, hq⟩
    · refine ⟨fun _ a2 => ?_, fun h => absurd h (by decide)⟩
      simp only [mIsE, mMeth]
      simp only [DL.mSeq, DL.mAsg, DL.mAsgR, DL.mAsgM, DL.mrs, DL.ssets, DL.mIf, DL.mRet, DL.mRetN, DL.mrOf, DL.mrLst, DL.mrCat, DL.mrCall, DL.mDrop, DL.mNext, DL.mBreak, DL.mCont, DL.mC, DL.mVar, DL.mOp2, DL.mOp1, DL.mAnd, DL.mOr, DL.mNot, DL.mIfE, DL.mChain, DL.mNil, DL.mCons, DL.mTup, DL.mLst, DL.mCallB, DL.mDict0, DL.mPart, DL.mNoPart, DL.mSl, DL.mCall, DL.mCallK, DL.mCallW, DL.mLenScr, DL.mWell, DL.mT, DL.mTAnd, DL.mTOr, DL.mTNot, DL.mTYes, DL.mgName, DL.mgNil_n, DL.mgCons_c, DL.mgTup_t, DL.mgTup_l, DL.miSeq, DL.miRng1, DL.miRng2, DL.mRaise, DL.mApp, DL.mFor, DL.mLc, DL.mrLc, DL.sget, DL.sset, DL.slots0, DL.slotsW, DL.endP, DL.endW, DL.endL, DL.wF, DL.fz_va, DL.fz_own, List.length_cons, List.length_nil, List.map_cons, List.map_nil, List.replicate_succ, List.replicate_zero, Nat.reduceAdd, Nat.reduceSub, Nat.reduceLeDiff, List.cons_append, List.nil_append, Nat.zero_add, Nat.add_zero, Nat.sub_self, Option.some.injEq, PyData.bool.injEq, PyData.int.injEq, PyData.tuple.injEq, PyData.list.injEq, PyData.str.injEq, List.cons.injEq, DL.S.va.injEq, DL.S.own.injEq, DL.S.well.injEq, DL.S.scr.injEq, and_true, true_and, exists_eq_left', exists_eq_left, exists_eq_right, exists_eq_right', exists_and_left, exists_and_right, exists_eq, exists_eq', reduceCtorEq, false_and, and_false, exists_const, if_true, if_false, Bool.false_eq_true, reduceIte, Bool.not_true, Bool.not_false, DL.bIsi, List.any_cons, List.any_nil, Bool.or_false, Bool.or_true, Bool.false_or, Bool.true_or, DL.isK, DL.opAdd_i, DL.opSub_i, DL.opLt_i, DL.opLe_i, DL.opGt_i, DL.opGe_i, DL.opEq_int, DL.opNe_int, DL.opEq_b, DL.opNe_b, DL.opEq_nn, beq_self_eq_true, DL.opEq_str, DL.opNe_str, DL.opIsN_n, DL.opNotN_n, DL.isN, DL.opIsB_b, DL.opNotB_b, DL.opNeg_i, DL.bAbs_i, DL.bMax_i, DL.bMin_i, DL.bInt_i, DL.bGcd_i, DL.bLen_l, DL.bLen_t, DL.opAdd_t, DL.opAdd_l, DL.opIx_l, DL.opIx_t, DL.opSl_t, DL.opSl_l, DL.opRev_t, DL.opRev_l, DL.bList_l, DL.bList_t, DL.bTup_l, DL.bTup_t, DL.atI0, DL.atI1, DL.atI2, DL.atI3, DL.items_t, DL.items_l]
      simp only [show isSub "InvalidSide" "InvalidTable" = false by decide, show isSub "InvalidSide" "InvalidShot" = false by decide, show isSub "InvalidSide" "InvalidSide" = true by decide, show isSub "InvalidSide" "InvalidTime" = false by decide, show isSub "InvalidSide" "InvalidNumber" = false by decide, show isSub "InvalidSide" "ValueError" = true by decide]
      refine ⟨by decide, ?_⟩
      rw [if_neg (by decide)]
      refine ⟨.int 1, rfl, _, opNe_int, _, rfl, ?_⟩
      rw [if_neg (by decide)]
      exact ⟨.int 2, rfl, _, rfl, hq⟩
    · refine ⟨fun _ a2 => ?_, fun h => absurd h (by decide)⟩
      simp only [mIsE, mMeth]
      simp only [DL.mSeq, DL.mAsg, DL.mAsgR, DL.mAsgM, DL.mrs, DL.ssets, DL.mIf, DL.mRet, DL.mRetN, DL.mrOf, DL.mrLst, DL.mrCat, DL.mrCall, DL.mDrop, DL.mNext, DL.mBreak, DL.mCont, DL.mC, DL.mVar, DL.mOp2, DL.mOp1, DL.mAnd, DL.mOr, DL.mNot, DL.mIfE, DL.mChain, DL.mNil, DL.mCons, DL.mTup, DL.mLst, DL.mCallB, DL.mDict0, DL.mPart, DL.mNoPart, DL.mSl, DL.mCall, DL.mCallK, DL.mCallW, DL.mLenScr, DL.mWell, DL.mT, DL.mTAnd, DL.mTOr, DL.mTNot, DL.mTYes, DL.mgName, DL.mgNil_n, DL.mgCons_c, DL.mgTup_t, DL.mgTup_l, DL.miSeq, DL.miRng1, DL.miRng2, DL.mRaise, DL.mApp, DL.mFor, DL.mLc, DL.mrLc, DL.sget, DL.sset, DL.slots0, DL.slotsW, DL.endP, DL.endW, DL.endL, DL.wF, DL.fz_va, DL.fz_own, List.length_cons, List.length_nil, List.map_cons, List.map_nil, List.replicate_succ, List.replicate_zero, Nat.reduceAdd, Nat.reduceSub, Nat.reduceLeDiff, List.cons_append, List.nil_append, Nat.zero_add, Nat.add_zero, Nat.sub_self, Option.some.injEq, PyData.bool.injEq, PyData.int.injEq, PyData.tuple.injEq, PyData.list.injEq, PyData.str.injEq, List.cons.injEq, DL.S.va.injEq, DL.S.own.injEq, DL.S.well.injEq, DL.S.scr.injEq, and_true, true_and, exists_eq_left', exists_eq_left, exists_eq_right, exists_eq_right', exists_and_left, exists_and_right, exists_eq, exists_eq', reduceCtorEq, false_and, and_false, exists_const, if_true, if_false, Bool.false_eq_true, reduceIte, Bool.not_true, Bool.not_false, DL.bIsi, List.any_cons, List.any_nil, Bool.or_false, Bool.or_true, Bool.false_or, Bool.true_or, DL.isK, DL.opAdd_i, DL.opSub_i, DL.opLt_i, DL.opLe_i, DL.opGt_i, DL.opGe_i, DL.opEq_int, DL.opNe_int, DL.opEq_b, DL.opNe_b, DL.opEq_nn, beq_self_eq_true, DL.opEq_str, DL.opNe_str, DL.opIsN_n, DL.opNotN_n, DL.isN, DL.opIsB_b, DL.opNotB_b, DL.opNeg_i, DL.bAbs_i, DL.bMax_i, DL.bMin_i, DL.bInt_i, DL.bGcd_i, DL.bLen_l, DL.bLen_t, DL.opAdd_t, DL.opAdd_l, DL.opIx_l, DL.opIx_t, DL.opSl_t, DL.opSl_l, DL.opRev_t, DL.opRev_l, DL.bList_l, DL.bList_t, DL.bTup_l, DL.bTup_t, DL.atI0, DL.atI1, DL.atI2, DL.atI3, DL.items_t, DL.items_l]
      simp only [show isSub "InvalidTime" "InvalidTable" = false by decide, show isSub "InvalidTime" "InvalidShot" = false by decide, show isSub "InvalidTime" "InvalidSide" = false by decide, show isSub "InvalidTime" "InvalidTime" = true by decide, show isSub "InvalidTime" "InvalidNumber" = false by decide, show isSub "InvalidTime" "ValueError" = true by decide]
      refine ⟨by decide, ?_⟩
      rw [if_neg (by decide)]
      refine ⟨.int 1, rfl, _, opNe_int, _, rfl, ?_⟩
      rw [if_neg (by decide)]
      exact ⟨.int 3, rfl, _, rfl, hq⟩
    · refine ⟨fun _ a2 => ?_, fun h => absurd h (by decide)⟩
      simp only [mIsE, mMeth]
      simp only [DL.mSeq, DL.mAsg, DL.mAsgR, DL.mAsgM, DL.mrs, DL.ssets, DL.mIf, DL.mRet, DL.mRetN, DL.mrOf, DL.mrLst, DL.mrCat, DL.mrCall, DL.mDrop, DL.mNext, DL.mBreak, DL.mCont, DL.mC, DL.mVar, DL.mOp2, DL.mOp1, DL.mAnd, DL.mOr, DL.mNot, DL.mIfE, DL.mChain, DL.mNil, DL.mCons, DL.mTup, DL.mLst, DL.mCallB, DL.mDict0, DL.mPart, DL.mNoPart, DL.mSl, DL.mCall, DL.mCallK, DL.mCallW, DL.mLenScr, DL.mWell, DL.mT, DL.mTAnd, DL.mTOr, DL.mTNot, DL.mTYes, DL.mgName, DL.mgNil_n, DL.mgCons_c, DL.mgTup_t, DL.mgTup_l, DL.miSeq, DL.miRng1, DL.miRng2, DL.mRaise, DL.mApp, DL.mFor, DL.mLc, DL.mrLc, DL.sget, DL.sset, DL.slots0, DL.slotsW, DL.endP, DL.endW, DL.endL, DL.wF, DL.fz_va, DL.fz_own, List.length_cons, List.length_nil, List.map_cons, List.map_nil, List.replicate_succ, List.replicate_zero, Nat.reduceAdd, Nat.reduceSub, Nat.reduceLeDiff, List.cons_append, List.nil_append, Nat.zero_add, Nat.add_zero, Nat.sub_self, Option.some.injEq, PyData.bool.injEq, PyData.int.injEq, PyData.tuple.injEq, PyData.list.injEq, PyData.str.injEq, List.cons.injEq, DL.S.va.injEq, DL.S.own.injEq, DL.S.well.injEq, DL.S.scr.injEq, and_true, true_and, exists_eq_left', exists_eq_left, exists_eq_right, exists_eq_right', exists_and_left, exists_and_right, exists_eq, exists_eq', reduceCtorEq, false_and, and_false, exists_const, if_true, if_false, Bool.false_eq_true, reduceIte, Bool.not_true, Bool.not_false, DL.bIsi, List.any_cons, List.any_nil, Bool.or_false, Bool.or_true, Bool.false_or, Bool.true_or, DL.isK, DL.opAdd_i, DL.opSub_i, DL.opLt_i, DL.opLe_i, DL.opGt_i, DL.opGe_i, DL.opEq_int, DL.opNe_int, DL.opEq_b, DL.opNe_b, DL.opEq_nn, beq_self_eq_true, DL.opEq_str, DL.opNe_str, DL.opIsN_n, DL.opNotN_n, DL.isN, DL.opIsB_b, DL.opNotB_b, DL.opNeg_i, DL.bAbs_i, DL.bMax_i, DL.bMin_i, DL.bInt_i, DL.bGcd_i, DL.bLen_l, DL.bLen_t, DL.opAdd_t, DL.opAdd_l, DL.opIx_l, DL.opIx_t, DL.opSl_t, DL.opSl_l, DL.opRev_t, DL.opRev_l, DL.bList_l, DL.bList_t, DL.bTup_l, DL.bTup_t, DL.atI0, DL.atI1, DL.atI2, DL.atI3, DL.items_t, DL.items_l]
      simp only [show isSub "InvalidNumber" "InvalidTable" = false by decide, show isSub "InvalidNumber" "InvalidShot" = false by decide, show isSub "InvalidNumber" "InvalidSide" = false by decide, show isSub "InvalidNumber" "InvalidTime" = false by decide, show isSub "InvalidNumber" "InvalidNumber" = true by decide, show isSub "InvalidNumber" "ValueError" = true by decide]
      refine ⟨by decide, ?_⟩
      rw [if_neg (by decide)]
      refine ⟨.int 1, rfl, _, opNe_int, _, rfl, ?_⟩
      rw [if_neg (by decide)]
      exact ⟨.int 4, rfl, _, rfl, hq⟩
  · obtain ⟨z1, z2, z3, z4, z5⟩ := hz h
    rw [h] at hq
    exact ⟨z1, z2, z3, z4, z5, ⟨_, rfl⟩, hq⟩
section
variable {P : Program} {w : World} {K : PySem.W.Frag} {mg : Str → Option Value} {base : Heap} {CN : String → Option Addr}
theorem ok__law_told {f : Addr} {fd : FuncData} (F : Fun K "_law_told" "_law_told" s__law_told f fd) (g : G K mg CN) (c__law_called : CalP P w K mg base CN 9 "_law_called" D__law_called) : FnG P w K mg base 10 f fd ["way", "a", "b", "c"] (spP K CN D__law_told) := by
  obtain ⟨ch_ShotError, mh_ShotError, hx_ShotError⟩ := g.h_ShotError
  obtain ⟨ckt_InvalidNumber, mt_InvalidNumber, kt_InvalidNumber⟩ := g.kt_InvalidNumber
  obtain ⟨ckt_InvalidShot, mt_InvalidShot, kt_InvalidShot⟩ := g.kt_InvalidShot
  obtain ⟨ckt_InvalidSide, mt_InvalidSide, kt_InvalidSide⟩ := g.kt_InvalidSide
  obtain ⟨ckt_InvalidTable, mt_InvalidTable, kt_InvalidTable⟩ := g.kt_InvalidTable
  obtain ⟨ckt_InvalidTime, mt_InvalidTime, kt_InvalidTime⟩ := g.kt_InvalidTime
  have sc := sc__law_told
  exact fun_okP (m := m__law_told) F sc (by decide) len__law_told (fun cdv A outer s H E C W hw hr tk =>
    (pds_one (pds_try (i := 5) rfl rfl sc.nd rfl rfl ⟨rfl, by decide, .inl mh_ShotError⟩ tk hx_ShotError (fun F1 Wd pn xe tk1 po => (pds_cons (pds_drop (pd_call c__law_called hr (by decide) tk1 (pda_cons (dv 0) (pda_cons (dv 1) (pda_cons (dv 2) (pda_cons (dv 3) pda_nil))))))
    (pds_one (pds_ret (pdr_of pd_str))))) (fun a oe pn c A hA hz hfl => (pds_cons (pds_asgR (ps_set (i := 4) sc.nd rfl (.inl rfl) (pdr_lst (pda_cons (pd_isE (tv := .ref ckt_InvalidTable) (g.ec c A hA) hz hfl g.b_isinstance (kt_InvalidTable c A hA) (fun _ r => r) rfl (.inl rfl) (pe_glob rfl mt_InvalidTable rfl)) (pda_cons (pd_isE (tv := .ref ckt_InvalidShot) (g.ec c A hA) hz hfl g.b_isinstance (kt_InvalidShot c A hA) (fun _ r => r) rfl (.inl rfl) (pe_glob rfl mt_InvalidShot rfl)) pda_nil)))))
    (pds_cons (pds_asgR (ps_set (i := 4) sc.nd rfl (.inl rfl) (pdr_cat (dv 4) (pd_lst (pda_cons (pd_isE (tv := .ref ckt_InvalidSide) (g.ec c A hA) hz hfl g.b_isinstance (kt_InvalidSide c A hA) (fun _ r => r) rfl (.inl rfl) (pe_glob rfl mt_InvalidSide rfl)) (pda_cons (pd_isE (tv := .ref ckt_InvalidTime) (g.ec c A hA) hz hfl g.b_isinstance (kt_InvalidTime c A hA) (fun _ r => r) rfl (.inl rfl) (pe_glob rfl mt_InvalidTime rfl)) pda_nil))))))
    (pds_cons (pds_app (ps_expr (pe_bm PySem.F.plainAttrs_list PySem.F.slot_list_append PySem.F.type_list_append mt_append (pv 4) (pa_cons (pd_isE (tv := .ref ckt_InvalidNumber) (g.ec c A hA) hz hfl g.b_isinstance (kt_InvalidNumber c A hA) (fun _ r => r) rfl (.inl rfl) (pe_glob rfl mt_InvalidNumber rfl)) pa_nil))))
    (pds_cons (pds_if (pdt_ofw (pdw_or (pdt_not (pdt_val (pd_isE (tv := .ty "ValueError") (g.ec c A hA) hz hfl g.b_isinstance (g.kb_ValueError c A hA) (fun _ r => r) rfl (.inl rfl) (pe_bltn (v := .ty "ValueError") rfl g.b_ValueError (by decide +kernel) rfl (by decide) (by decide))))) (pdw_or1 (pdt_cmp (or_neD (by have h := RoomG.u64 hr; exact h)) rl_ne (pd_count (dv 4) pd_bl (pe_bm PySem.F.plainAttrs_list PySem.F.slot_list_count PySem.F.type_list_count mt_countF (dv 4) (pa_cons pd_bl pa_nil))) pd_int (nomark _))))) (pds_one (pds_ret (pdr_of pd_str))) pds_nil)
    (pds_one (pds_ret (pdr_of (pd_ix ix_seq rl_ix (pd_lst (pda_cons pd_str (pda_cons pd_str (pda_cons pd_str (pda_cons pd_str (pda_cons pd_str pda_nil)))))) (pd_index (dv 4) pd_bl (pe_bm PySem.F.plainAttrs_list PySem.F.slot_list_index PySem.F.type_list_index mt_index (dv 4) (pa_cons pd_bl pa_nil))))))))))))))) rd__law_told
end
end LW
namespace LW
open PySem PySem.Spec PyProof.Rows L2 DL
def m__law_third : MS :=
  mSeq (mIf (mT (mOp2 opEq (mVar 1) (mC (.int 4)))) (mSeq (mAsg (mLst (mCons (mC .none) (mCons (mC (.int 0)) (mCons (mOp1 opNeg (mC (.int 1))) (mCons (mC (.bool true)) (mCons (mC (.str "1")) (mCons (mTup (mCons (mC (.int 1)) (mNil))) (mCons (mLst (mCons (mC (.int 1)) (mNil))) (mCons (mDict0) (mNil)))))))))) (mgName 2))
  (mSeq (mIf (mT (mOp2 opEq (mCallW dDraw 0 (mCons (mC (.int 2)) (mNil))) (mC (.int 0)))) (mRet (mrOf (mTup (mCons (mOp2 opIx (mVar 2) (mCallW dDraw 0 (mCons (mC (.int 8)) (mNil)))) (mCons (mC (.str "number")) (mNil)))))) (mNext))
  (mRet (mrOf (mTup (mCons (mOp2 opAdd (mC (.int 1)) (mCallW dDraw 0 (mCons (mC (.int 9)) (mNil)))) (mCons (mC (.str "none")) (mNil)))))))) (mNext))
  (mSeq (mAsg (mLst (mCons (mC .none) (mCons (mC (.int 1)) (mCons (mTup (mCons (mC (.int 1)) (mCons (mC (.int 0)) (mNil)))) (mCons (mTup (mCons (mC (.int 2)) (mCons (mC (.int 4)) (mNil)))) (mCons (mTup (mCons (mC (.int 0)) (mCons (mC (.int 2)) (mNil)))) (mCons (mTup (mCons (mC (.int 1)) (mCons (mOp1 opNeg (mC (.int 1))) (mNil)))) (mCons (mLst (mCons (mC (.int 1)) (mCons (mC (.int 1)) (mNil)))) (mCons (mTup (mCons (mC (.int 1)) (mNil))) (mCons (mTup (mCons (mC (.bool true)) (mCons (mC (.int 1)) (mNil)))) (mCons (mTup (mCons (mC (.int 1)) (mCons (mC (.bool true)) (mNil)))) (mNil)))))))))))) (mgName 2))
  (mSeq (mAsg (mOp2 opAdd (mVar 2) (mLst (mCons (mC (.str "1")) (mCons (mTup (mCons (mC (.int 1)) (mCons (mC (.int 1)) (mCons (mC (.int 1)) (mNil))))) (mCons (mDict0) (mNil)))))) (mgName 2))
  (mSeq (mIf (mTAnd (mT (mOp2 opIn (mVar 1) (mTup (mCons (mC (.int 1)) (mCons (mC (.int 2)) (mCons (mC (.int 3)) (mCons (mC (.int 7)) (mNil)))))))) (mT (mOp2 opEq (mCallW dDraw 0 (mCons (mC (.int 2)) (mNil))) (mC (.int 0))))) (mRet (mrOf (mTup (mCons (mOp2 opIx (mVar 2) (mCallW dDraw 0 (mCons (mC (.int 13)) (mNil)))) (mCons (mC (.str "time")) (mNil)))))) (mNext))
  (mRet (mrOf (mTup (mCons (mTup (mCons (mOp2 opSub (mOp2 opMul (mC (.int 2)) (mCallW dDraw 0 (mCons (mC (.int 9)) (mNil)))) (mC (.int 9))) (mCons (mC (.int 2)) (mNil)))) (mCons (mC (.str "none")) (mNil)))))))))
def thirdOk (w : Int) (c : PyData) (due : Str) : Prop := (w = 4 ∧ ((isNum c = false ∧ due = "number") ∨ (isNum c = true ∧ szN c ∧ due = "none"))) ∨ (w ≠ 4 ∧ (((w = 1 ∨ w = 2 ∨ w = 3 ∨ w = 7) ∧ isFrac c = false ∧ due = "time") ∨ (isFrac c = true ∧ szD c ∧ due = "none")))
def badNums : List PyData := [.none, .int 0, .int (-1), .bool true, .str "1", .tuple [.int 1], .list [.int 1], .dict []]
def badTimes : List PyData := [.none, .int 1, .tuple [.int 1, .int 0], .tuple [.int 2, .int 4], .tuple [.int 0, .int 2], .tuple [.int 1, .int (-1)], .list [.int 1, .int 1], .tuple [.int 1], .tuple [.bool true, .int 1], .tuple [.int 1, .bool true], .str "1", .tuple [.int 1, .int 1, .int 1], .dict []]
def D__law_third : WSpec := fun n ds Q => ∃ w, ds = [.int w] ∧ 0 ≤ w ∧ w ≤ 7 ∧ 4 ≤ n ∧ ∀ c due n', n ≤ n' + 4 → thirdOk w c due → Q (.va (.tuple [c, .str due])) n'
theorem len__law_third : ∀ n ds Q, D__law_third n ds Q → ds.length + 1 = 2 := by
  rintro n _ Q ⟨w, rfl, _⟩
  rfl
theorem dr1 {n : Nat} {m : Int} {Q : S → Nat → Prop} (h0 : 1 ≤ n) (h1 : 1 ≤ m) (h2 : m < 2 ^ 200) (k : ∀ r : Int, 0 ≤ r → r < m → Q (.va (.int r)) (n - 1)) : dDraw n [.int m] Q := by
  refine ⟨m, rfl, h0, h1, ?_, k⟩
  refine (Nat.log2_lt (by omega)).mpr ?_
  have : m.natAbs < 2 ^ 200 := by omega
  exact Nat.lt_of_lt_of_le this (Nat.pow_le_pow_right (by decide) (by decide))
theorem rd__law_third : ∀ n ds Q, D__law_third n ds Q → m__law_third (endW Q) (slotsW 3 n ds) := by
  rintro n _ Q ⟨w, rfl, w0, w1, hn, q⟩
  unfold m__law_third
  simp only [DL.mSeq, DL.mAsg, DL.mAsgR, DL.mAsgM, DL.mrs, DL.ssets, DL.mIf, DL.mRet, DL.mRetN, DL.mrOf, DL.mrLst, DL.mrCat, DL.mrCall, DL.mDrop, DL.mNext, DL.mBreak, DL.mCont, DL.mC, DL.mVar, DL.mOp2, DL.mOp1, DL.mAnd, DL.mOr, DL.mNot, DL.mIfE, DL.mChain, DL.mNil, DL.mCons, DL.mTup, DL.mLst, DL.mCallB, DL.mDict0, DL.mPart, DL.mNoPart, DL.mSl, DL.mCall, DL.mCallK, DL.mCallW, DL.mLenScr, DL.mWell, DL.mT, DL.mTAnd, DL.mTOr, DL.mTNot, DL.mTYes, DL.mgName, DL.mgNil_n, DL.mgCons_c, DL.mgTup_t, DL.mgTup_l, DL.miSeq, DL.miRng1, DL.miRng2, DL.mRaise, DL.mApp, DL.mFor, DL.mLc, DL.mrLc, DL.sget, DL.sset, DL.slots0, DL.slotsW, DL.endP, DL.endW, DL.endL, DL.wF, DL.fz_va, DL.fz_own, List.length_cons, List.length_nil, List.map_cons, List.map_nil, List.replicate_succ, List.replicate_zero, Nat.reduceAdd, Nat.reduceSub, Nat.reduceLeDiff, List.cons_append, List.nil_append, Nat.zero_add, Nat.add_zero, Nat.sub_self, Option.some.injEq, PyData.bool.injEq, PyData.int.injEq, PyData.tuple.injEq, PyData.list.injEq, PyData.str.injEq, List.cons.injEq, DL.S.va.injEq, DL.S.own.injEq, DL.S.well.injEq, DL.S.scr.injEq, and_true, true_and, exists_eq_left', exists_eq_left, exists_eq_right, exists_eq_right', exists_and_left, exists_and_right, exists_eq, exists_eq', reduceCtorEq, false_and, and_false, exists_const, if_true, if_false, Bool.false_eq_true, reduceIte, Bool.not_true, Bool.not_false, DL.bIsi, List.any_cons, List.any_nil, Bool.or_false, Bool.or_true, Bool.false_or, Bool.true_or, DL.isK, DL.opAdd_i, DL.opSub_i, DL.opLt_i, DL.opLe_i, DL.opGt_i, DL.opGe_i, DL.opEq_int, DL.opNe_int, DL.opEq_b, DL.opNe_b, DL.opEq_nn, beq_self_eq_true, DL.opEq_str, DL.opNe_str, DL.opIsN_n, DL.opNotN_n, DL.isN, DL.opIsB_b, DL.opNotB_b, DL.opNeg_i, DL.bAbs_i, DL.bMax_i, DL.bMin_i, DL.bInt_i, DL.bGcd_i, DL.bLen_l, DL.bLen_t, DL.opAdd_t, DL.opAdd_l, DL.opIx_l, DL.opIx_t, DL.opSl_t, DL.opSl_l, DL.opRev_t, DL.opRev_l, DL.bList_l, DL.bList_t, DL.bTup_l, DL.bTup_t, DL.atI0, DL.atI1, DL.atI2, DL.atI3, DL.items_t, DL.items_l]
  have oddF : ∀ r : Int, 0 ≤ r → r < 9 → isFrac (.tuple [.int (2 * r - 9), .int 2]) = true := fun r r0 r1 => by
    have c : r = 0 ∨ r = 1 ∨ r = 2 ∨ r = 3 ∨ r = 4 ∨ r = 5 ∨ r = 6 ∨ r = 7 ∨ r = 8 := by omega
    rcases c with rfl | rfl | rfl | rfl | rfl | rfl | rfl | rfl | rfl <;> decide +kernel
  by_cases h4 : w = 4
  · rw [if_pos (decide_eq_true h4)]
    refine dr1 (by omega) (by decide) (by decide) fun z p1 p2 => ⟨_, rfl, _, opEq_int, _, rfl, ?_⟩
    by_cases hz : z = 0
    · rw [if_pos (decide_eq_true hz)]
      refine dr1 (by omega) (by decide) (by decide) fun r p3 p4 => ⟨_, rfl, ?_⟩
      have key : ∀ d ∈ badNums, isNum d = false := by decide +kernel
      obtain ⟨d, hd, e⟩ := DL.atI_mem (xs := badNums) p3 p4
      exact ⟨d, e, q _ _ _ (by omega) (.inl ⟨h4, .inl ⟨key d hd, rfl⟩⟩)⟩
    · rw [if_neg (by simpa using hz)]
      refine dr1 (by omega) (by decide) (by decide) fun r p3 p4 => ⟨_, rfl, _, rfl, q _ _ _ (by omega) (.inl ⟨h4, .inr ⟨?_, ?_, rfl⟩⟩)⟩
      · simp only [isNum, decide_eq_true_eq]; omega
      · exact sz_mono (k := 20) (by unfold sz; omega) (by decide)
  · rw [if_neg (by simpa using h4)]
    have last : ∀ n' : Nat, n ≤ n' + 2 → 1 ≤ n' → dDraw n' [.int 9] fun r n' => ∃ d, fz r = some d ∧ ∃ r, opMul (.int 2) d = some r ∧ ∃ r2, opSub r (.int 9) = some r2 ∧ Q (.va (.tuple [.tuple [r2, .int 2], .str "none"])) n' := fun n' h1 h2 => by
      refine dr1 h2 (by decide) (by decide) fun r p3 p4 => ⟨_, rfl, _, opMul_ok (k := 2) (l := 20) (by unfold sz; decide) (by unfold sz; omega) (by decide), _, rfl, q _ _ _ (by omega) (.inr ⟨h4, .inr ⟨oddF r p3 p4, ⟨?_, ?_⟩, rfl⟩⟩)⟩
      · exact sz_mono (k := 20) (by unfold sz; omega) (by decide)
      · exact sz_mono (k := 20) (by unfold sz; decide) (by decide)
    have c : (w = 1 ∨ w = 2 ∨ w = 3 ∨ w = 7) ∨ (w = 0 ∨ w = 5 ∨ w = 6) := by omega
    rcases c with c | c
    · refine ⟨.bool true, by rcases c with rfl | rfl | rfl | rfl <;> rfl, _, rfl, ?_⟩
      rw [if_pos rfl]
      refine dr1 (by omega) (by decide) (by decide) fun z p1 p2 => ⟨_, rfl, _, opEq_int, _, rfl, ?_⟩
      by_cases hz : z = 0
      · rw [if_pos (decide_eq_true hz)]
        refine dr1 (by omega) (by decide) (by decide) fun r p3 p4 => ⟨_, rfl, ?_⟩
        have key : ∀ d ∈ badTimes, isFrac d = false := by decide +kernel
        obtain ⟨d, hd, e⟩ := DL.atI_mem (xs := badTimes) p3 p4
        exact ⟨d, e, q _ _ _ (by omega) (.inr ⟨h4, .inl ⟨c, key d hd, rfl⟩⟩)⟩
      · rw [if_neg (by simpa using hz)]
        exact last _ (by omega) (by omega)
    · refine ⟨.bool false, by rcases c with rfl | rfl | rfl <;> rfl, _, rfl, ?_⟩
      rw [if_neg (by decide)]
      exact last _ (by omega) (by omega)
section
variable {P : Program} {w : World} {K : PySem.W.Frag} {mg : Str → Option Value} {base : Heap} {CN : String → Option Addr}
theorem ok__law_third {f : Addr} {fd : FuncData} (F : Fun K "_law_third" "_law_third" s__law_third f fd) (g : G K mg CN) (c__law_draw : CalW P w K mg base 1 "_law_draw" dDraw) : FnG P w K mg base 2 f fd ["well", "way"] (spW K D__law_third) := by
  have sc := sc__law_third
  exact fun_okW (m := m__law_third) (CN := CN) F sc (by decide) len__law_third (fun cdv A outer s H E C hr tk =>
    (pds_cons (pds_if (pdt_cmp (or_eqD (RoomG.u64 hr)) rl_eq (dv 1) pd_int (nomark _)) (pds_cons (pds_asg (ps_asg (pd_lst (pda_cons pd_non (pda_cons pd_int (pda_cons (pd_un un_neg rl_neg pd_int) (pda_cons pd_bl (pda_cons pd_str (pda_cons (pd_tup (pda_cons pd_int pda_nil)) (pda_cons (pd_lst (pda_cons pd_int pda_nil)) (pda_cons pd_dict0 pda_nil))))))))) (dg 2 sc.nd)))
    (pds_cons (pds_if (pdt_cmp (or_eqD (RoomG.u64 hr)) rl_eq (pd_callW c__law_draw hr (by decide) tk (pv 0) (pda_cons pd_int pda_nil)) pd_int (nomark _)) (pds_one (pds_ret (pdr_of (pd_tup (pda_cons (pd_ix ix_seq rl_ix (dv 2) (pd_callW c__law_draw hr (by decide) tk (pv 0) (pda_cons pd_int pda_nil))) (pda_cons pd_str pda_nil)))))) pds_nil)
    (pds_one (pds_ret (pdr_of (pd_tup (pda_cons (pd_op or_add rl_add pd_int (pd_callW c__law_draw hr (by decide) tk (pv 0) (pda_cons pd_int pda_nil))) (pda_cons pd_str pda_nil)))))))) pds_nil)
    (pds_cons (pds_asg (ps_asg (pd_lst (pda_cons pd_non (pda_cons pd_int (pda_cons (pd_tup (pda_cons pd_int (pda_cons pd_int pda_nil))) (pda_cons (pd_tup (pda_cons pd_int (pda_cons pd_int pda_nil))) (pda_cons (pd_tup (pda_cons pd_int (pda_cons pd_int pda_nil))) (pda_cons (pd_tup (pda_cons pd_int (pda_cons (pd_un un_neg rl_neg pd_int) pda_nil))) (pda_cons (pd_lst (pda_cons pd_int (pda_cons pd_int pda_nil))) (pda_cons (pd_tup (pda_cons pd_int pda_nil)) (pda_cons (pd_tup (pda_cons pd_bl (pda_cons pd_int pda_nil))) (pda_cons (pd_tup (pda_cons pd_int (pda_cons pd_bl pda_nil))) pda_nil))))))))))) (dg 2 sc.nd)))
    (pds_cons (pds_asg (ps_asg (pd_op or_add rl_add (dv 2) (pd_lst (pda_cons pd_str (pda_cons (pd_tup (pda_cons pd_int (pda_cons pd_int (pda_cons pd_int pda_nil)))) (pda_cons pd_dict0 pda_nil))))) (dg 2 sc.nd)))
    (pds_cons (pds_if (pdt_ofw (pdw_and (pdt_cmp or_in rl_in (dv 1) (pd_tup (pda_cons pd_int (pda_cons pd_int (pda_cons pd_int (pda_cons pd_int pda_nil))))) rfl) (pdw_and1 (pdt_cmp (or_eqD (RoomG.u64 hr)) rl_eq (pd_callW c__law_draw hr (by decide) tk (pv 0) (pda_cons pd_int pda_nil)) pd_int (nomark _))))) (pds_one (pds_ret (pdr_of (pd_tup (pda_cons (pd_ix ix_seq rl_ix (dv 2) (pd_callW c__law_draw hr (by decide) tk (pv 0) (pda_cons pd_int pda_nil))) (pda_cons pd_str pda_nil)))))) pds_nil)
    (pds_one (pds_ret (pdr_of (pd_tup (pda_cons (pd_tup (pda_cons (pd_op op_sub rl_sub (pd_op or_mul rl_mul pd_int (pd_callW c__law_draw hr (by decide) tk (pv 0) (pda_cons pd_int pda_nil))) pd_int) (pda_cons pd_int pda_nil))) (pda_cons pd_str pda_nil))))))))))) rd__law_third
end
end LW
namespace LW
open PySem PySem.Spec PyProof.Rows L2 DL
def m__law_case : MS :=
  mSeq (mAsg (mCallW D__law_desk 0 (mCons (mC (.int 9)) (mNil))) (mgName 2))
  (mSeq (mAsg (mCallW D__law_roll 0 (mCons (mVar 2) (mCons (mC (.int 4)) (mNil)))) (mgName 3))
  (mSeq (mAsg (mCallW D__law_third 0 (mCons (mVar 1) (mNil))) (mgTup 2 (mgCons (mgName 4) (mgCons (mgName 5) (mgNil)))))
  (mSeq (mIf (mT (mOp2 opEq (mVar 1) (mC (.int 7)))) (mSeq (mAsg (mLst (mCons (mC .none) (mCons (mC (.int 0)) (mCons (mOp1 opNeg (mC (.int 1))) (mCons (mC (.bool true)) (mCons (mC (.str "4")) (mCons (mTup (mCons (mC (.int 4)) (mNil))) (mCons (mLst (mCons (mC (.int 4)) (mNil))) (mCons (mDict0) (mNil)))))))))) (mgName 6))
  (mSeq (mIf (mT (mOp2 opEq (mCallW dDraw 0 (mCons (mC (.int 3)) (mNil))) (mC (.int 0)))) (mRet (mrOf (mTup (mCons (mOp2 opIx (mVar 6) (mCallW dDraw 0 (mCons (mC (.int 8)) (mNil)))) (mCons (mC .none) (mCons (mVar 4) (mCons (mC (.str "side")) (mNil)))))))) (mNext))
  (mRet (mrOf (mTup (mCons (mOp2 opAdd (mC (.int 1)) (mCallW dDraw 0 (mCons (mC (.int 9)) (mNil)))) (mCons (mC .none) (mCons (mVar 4) (mCons (mVar 5) (mNil)))))))))) (mNext))
  (mSeq (mAsg (mVar 3) (mgTup 4 (mgCons (mgName 7) (mgCons (mgName 8) (mgCons (mgName 9) (mgCons (mgName 10) (mgNil)))))))
  (mSeq (mAsg (mLst (mCons (mC .none) (mCons (mTup (mNil)) (mCons (mCallB bList (mCons (mVar 3) (mNil))) (mCons (mTup (mCons (mVar 7) (mCons (mVar 8) (mCons (mVar 9) (mNil))))) (mCons (mTup (mCons (mVar 7) (mCons (mVar 8) (mCons (mC (.int 0)) (mCons (mC (.int 0)) (mNil)))))) (mCons (mTup (mCons (mOp1 opNeg (mC (.int 1))) (mCons (mVar 8) (mCons (mVar 9) (mCons (mVar 10) (mNil)))))) (mNil)))))))) (mgName 11))
  (mSeq (mAsg (mOp2 opAdd (mVar 11) (mLst (mCons (mTup (mCons (mVar 7) (mCons (mOp1 opNeg (mC (.int 1))) (mCons (mVar 9) (mCons (mVar 10) (mNil)))))) (mCons (mC (.str "0 0 1 1")) (mCons (mTup (mCons (mVar 7) (mCons (mVar 8) (mCons (mVar 9) (mCons (mC .none) (mNil)))))) (mCons (mTup (mCons (mC (.bool true)) (mCons (mVar 8) (mCons (mVar 9) (mCons (mVar 10) (mNil)))))) (mCons (mTup (mCons (mVar 7) (mCons (mVar 8) (mCons (mC (.str "1")) (mCons (mVar 10) (mNil)))))) (mCons (mDict0) (mNil))))))))) (mgName 11))
  (mSeq (mAsg (mLst (mCons (mTup (mCons (mOp2 opAdd (mOp2 opIx (mVar 2) (mC (.int 0))) (mC (.int 1))) (mCons (mVar 8) (mCons (mVar 9) (mCons (mVar 10) (mNil)))))) (mCons (mTup (mCons (mVar 7) (mCons (mOp2 opAdd (mOp2 opIx (mVar 2) (mC (.int 1))) (mC (.int 1))) (mCons (mVar 9) (mCons (mVar 10) (mNil)))))) (mNil)))) (mgName 12))
  (mSeq (mIf (mTAnd (mT (mOp2 opGt (mVar 1) (mC (.int 0)))) (mT (mOp2 opEq (mCallW dDraw 0 (mCons (mC (.int 3)) (mNil))) (mC (.int 0))))) (mSeq (mAsg (mIfE (mT (mOp2 opNe (mVar 1) (mC (.int 6)))) (mOp2 opAdd (mVar 11) (mVar 12)) (mVar 11)) (mgName 13))
  (mAsgM [3, 5] [mrOf (mOp2 opIx (mVar 13) (mCallW dDraw 0 (mCons (mCallB bLen (mCons (mVar 13) (mNil))) (mNil)))), mrOf (mC (.str "shot"))])) (mNext))
  (mSeq (mIf (mTAnd (mT (mOp2 opEq (mVar 1) (mC (.int 0)))) (mT (mOp2 opEq (mCallW dDraw 0 (mCons (mC (.int 2)) (mNil))) (mC (.int 0))))) (mAsg (mOp2 opIx (mOp2 opAdd (mVar 11) (mVar 12)) (mCallW dDraw 0 (mCons (mOp2 opAdd (mCallB bLen (mCons (mVar 11) (mNil))) (mC (.int 2))) (mNil)))) (mgName 3)) (mNext))
  (mSeq (mIf (mT (mOp2 opEq (mVar 1) (mC (.int 6)))) (mRet (mrOf (mTup (mCons (mC .none) (mCons (mVar 3) (mCons (mC .none) (mCons (mIfE (mT (mOp2 opNe (mVar 5) (mC (.str "shot")))) (mC (.str "none")) (mC (.str "shot"))) (mNil)))))))) (mNext))
  (mSeq (mIf (mTAnd (mT (mOp2 opEq (mVar 1) (mC (.int 5)))) (mT (mOp2 opEq (mVar 5) (mC (.str "time"))))) (mAsg (mC (.str "none")) (mgName 5)) (mNext))
  (mSeq (mIf (mT (mOp2 opEq (mCallW dDraw 0 (mCons (mC (.int 4)) (mNil))) (mC (.int 0)))) (mSeq (mAsg (mLst (mCons (mC .none) (mCons (mTup (mNil)) (mCons (mCallB bList (mCons (mVar 2) (mNil))) (mCons (mTup (mCons (mC (.int 0)) (mCons (mC (.int 1)) (mNil)))) (mCons (mTup (mCons (mC (.int 1)) (mCons (mC (.int 0)) (mNil)))) (mCons (mTup (mCons (mC (.int 1)) (mNil))) (mCons (mTup (mCons (mC (.int 1)) (mCons (mC (.int 1)) (mCons (mC (.int 1)) (mNil))))) (mCons (mC (.str "4x2")) (mCons (mC (.int 5)) (mCons (mTup (mCons (mC (.bool true)) (mCons (mC (.int 1)) (mNil)))) (mCons (mDict0) (mNil))))))))))))) (mgName 13))
  (mAsgM [2, 5] [mrOf (mOp2 opIx (mVar 13) (mCallW dDraw 0 (mCons (mC (.int 11)) (mNil)))), mrOf (mC (.str "table"))])) (mNext))
  (mRet (mrOf (mTup (mCons (mVar 2) (mCons (mVar 3) (mCons (mVar 4) (mCons (mVar 5) (mNil))))))))))))))))))))
def badShots (x y p q : Int) : List PyData := [.none, .tuple [], .list [.int x, .int y, .int p, .int q], .tuple [.int x, .int y, .int p], .tuple [.int x, .int y, .int 0, .int 0], .tuple [.int (-1), .int y, .int p, .int q], .tuple [.int x, .int (-1), .int p, .int q], .str "0 0 1 1", .tuple [.int x, .int y, .int p, .none], .tuple [.bool true, .int y, .int p, .int q], .tuple [.int x, .int y, .str "1", .int q], .dict []]
def farShots (a b x y p q : Int) : List PyData := [.tuple [.int (a + 1), .int y, .int p, .int q], .tuple [.int x, .int (b + 1), .int p, .int q]]
def badTabs (a b : Int) : List PyData := [.none, .tuple [], .list [.int a, .int b], .tuple [.int 0, .int 1], .tuple [.int 1, .int 0], .tuple [.int 1], .tuple [.int 1, .int 1, .int 1], .str "4x2", .int 5, .tuple [.bool true, .int 1], .dict []]
def badSides : List PyData := [.none, .int 0, .int (-1), .bool true, .str "4", .tuple [.int 4], .list [.int 4], .dict []]
theorem badShots_any {x y p q : Int} : ∀ d ∈ badShots x y p q, isAny d = false := by
  intro d hd
  simp only [badShots, List.mem_cons, List.not_mem_nil, or_false] at hd
  rcases hd with rfl | rfl | rfl | rfl | rfl | rfl | rfl | rfl | rfl | rfl | rfl | rfl <;> simp [isAny]
theorem farShots_no {a b x y p q : Int} : ∀ d ∈ farShots a b x y p q, isShot (.tuple [.int a, .int b]) d = false := by
  intro d hd
  simp only [farShots, List.mem_cons, List.not_mem_nil, or_false] at hd
  rcases hd with rfl | rfl
  · simp [isShot, show ¬ (a + 1 ≤ a) by omega]
  · simp [isShot, show ¬ (b + 1 ≤ b) by omega]
theorem badTabs_no {a b : Int} : ∀ d ∈ badTabs a b, isTab d = false := by
  intro d hd
  simp only [badTabs, List.mem_cons, List.not_mem_nil, or_false] at hd
  rcases hd with rfl | rfl | rfl | rfl | rfl | rfl | rfl | rfl | rfl | rfl | rfl <;> simp [isTab]
theorem anyShots_sz {a b x y p q : Int} (za : sz 900 a) (zb : sz 900 b) (zx : sz 900 x) (zy : sz 900 y) (zp : sz 900 p) (zq : sz 900 q) : ∀ d ∈ badShots x y p q ++ farShots a b x y p q, szD d := by
  intro d hd
  have up : ∀ {z : Int}, sz 900 z → sz 1000 z := fun h => sz_mono h (by decide)
  have s0 : sz 1000 0 := by unfold sz; decide
  have s1 : sz 1000 (-1) := by unfold sz; decide
  have sa : sz 1000 (a + 1) := sz_mono (k := 901) (sz_add za (show sz 900 1 by unfold sz; decide)) (by decide)
  have sb : sz 1000 (b + 1) := sz_mono (k := 901) (sz_add zb (show sz 900 1 by unfold sz; decide)) (by decide)
  simp only [badShots, farShots, List.cons_append, List.nil_append, List.mem_cons, List.not_mem_nil, or_false] at hd
  rcases hd with rfl | rfl | rfl | rfl | rfl | rfl | rfl | rfl | rfl | rfl | rfl | rfl | rfl | rfl <;> simp only [szD, up zx, up zy, up zp, up zq, s0, s1, sa, sb, and_self]
def szAll (a b c : PyData) : Prop := szD a ∧ szD b ∧ szD c ∧ szN a ∧ szN c
def D__law_case : WSpec := fun n ds Q => ∃ w, ds = [.int w] ∧ 0 ≤ w ∧ w ≤ 7 ∧ 60 ≤ n ∧ ∀ a b c n', n ≤ n' + 60 → (dueOf w a b c = none → szAll a b c) → Q (.va (.tuple [a, b, c, sayOf (dueOf w a b c)])) n'
theorem len__law_case : ∀ n ds Q, D__law_case n ds Q → ds.length + 1 = 2 := by
  rintro n _ Q ⟨w, rfl, _⟩
  rfl
theorem rd__law_case : ∀ n ds Q, D__law_case n ds Q → m__law_case (endW Q) (slotsW 14 n ds) := by
  rintro n _ Q ⟨w, rfl, w0, w1, hn, q⟩
  unfold m__law_case
  simp only [DL.mSeq, DL.mAsg, DL.mAsgR, DL.mAsgM, DL.mrs, DL.ssets, DL.mIf, DL.mRet, DL.mRetN, DL.mrOf, DL.mrLst, DL.mrCat, DL.mrCall, DL.mDrop, DL.mNext, DL.mBreak, DL.mCont, DL.mC, DL.mVar, DL.mOp2, DL.mOp1, DL.mAnd, DL.mOr, DL.mNot, DL.mIfE, DL.mChain, DL.mNil, DL.mCons, DL.mTup, DL.mLst, DL.mCallB, DL.mDict0, DL.mPart, DL.mNoPart, DL.mSl, DL.mCall, DL.mCallK, DL.mCallW, DL.mLenScr, DL.mWell, DL.mT, DL.mTAnd, DL.mTOr, DL.mTNot, DL.mTYes, DL.mgName, DL.mgNil_n, DL.mgCons_c, DL.mgTup_t, DL.mgTup_l, DL.miSeq, DL.miRng1, DL.miRng2, DL.mRaise, DL.mApp, DL.mFor, DL.mLc, DL.mrLc, DL.sget, DL.sset, DL.slots0, DL.slotsW, DL.endP, DL.endW, DL.endL, DL.wF, DL.fz_va, DL.fz_own, List.length_cons, List.length_nil, List.map_cons, List.map_nil, List.replicate_succ, List.replicate_zero, Nat.reduceAdd, Nat.reduceSub, Nat.reduceLeDiff, List.cons_append, List.nil_append, Nat.zero_add, Nat.add_zero, Nat.sub_self, Option.some.injEq, PyData.bool.injEq, PyData.int.injEq, PyData.tuple.injEq, PyData.list.injEq, PyData.str.injEq, List.cons.injEq, DL.S.va.injEq, DL.S.own.injEq, DL.S.well.injEq, DL.S.scr.injEq, and_true, true_and, exists_eq_left', exists_eq_left, exists_eq_right, exists_eq_right', exists_and_left, exists_and_right, exists_eq, exists_eq', reduceCtorEq, false_and, and_false, exists_const, if_true, if_false, Bool.false_eq_true, reduceIte, Bool.not_true, Bool.not_false, DL.bIsi, List.any_cons, List.any_nil, Bool.or_false, Bool.or_true, Bool.false_or, Bool.true_or, DL.isK, DL.opAdd_i, DL.opSub_i, DL.opLt_i, DL.opLe_i, DL.opGt_i, DL.opGe_i, DL.opEq_int, DL.opNe_int, DL.opEq_b, DL.opNe_b, DL.opEq_nn, beq_self_eq_true, DL.opEq_str, DL.opNe_str, DL.opIsN_n, DL.opNotN_n, DL.isN, DL.opIsB_b, DL.opNotB_b, DL.opNeg_i, DL.bAbs_i, DL.bMax_i, DL.bMin_i, DL.bInt_i, DL.bGcd_i, DL.bLen_l, DL.bLen_t, DL.opAdd_t, DL.opAdd_l, DL.opIx_l, DL.opIx_t, DL.opSl_t, DL.opSl_l, DL.opRev_t, DL.opRev_l, DL.bList_l, DL.bList_t, DL.bTup_l, DL.bTup_t, DL.atI0, DL.atI1, DL.atI2, DL.atI3, DL.items_t, DL.items_l]
  refine ⟨9, rfl, by omega, by decide, by decide, fun a b n1 hn1 a1 a2 b1 b2 => ⟨_, rfl, ?_⟩⟩
  refine ⟨a, b, 4, rfl, by omega, a1, by omega, b1, by omega, by decide, by decide, fun x y p q' n2 hn2 x0 x1 y0 y1 hp hq hw => ⟨_, rfl, ?_⟩⟩
  refine ⟨w, rfl, w0, w1, by omega, fun c due n3 hn3 h3 => ⟨_, rfl, ?_⟩⟩
  simp only [DL.mSeq, DL.mAsg, DL.mAsgR, DL.mAsgM, DL.mrs, DL.ssets, DL.mIf, DL.mRet, DL.mRetN, DL.mrOf, DL.mrLst, DL.mrCat, DL.mrCall, DL.mDrop, DL.mNext, DL.mBreak, DL.mCont, DL.mC, DL.mVar, DL.mOp2, DL.mOp1, DL.mAnd, DL.mOr, DL.mNot, DL.mIfE, DL.mChain, DL.mNil, DL.mCons, DL.mTup, DL.mLst, DL.mCallB, DL.mDict0, DL.mPart, DL.mNoPart, DL.mSl, DL.mCall, DL.mCallK, DL.mCallW, DL.mLenScr, DL.mWell, DL.mT, DL.mTAnd, DL.mTOr, DL.mTNot, DL.mTYes, DL.mgName, DL.mgNil_n, DL.mgCons_c, DL.mgTup_t, DL.mgTup_l, DL.miSeq, DL.miRng1, DL.miRng2, DL.mRaise, DL.mApp, DL.mFor, DL.mLc, DL.mrLc, DL.sget, DL.sset, DL.slots0, DL.slotsW, DL.endP, DL.endW, DL.endL, DL.wF, DL.fz_va, DL.fz_own, List.length_cons, List.length_nil, List.map_cons, List.map_nil, List.replicate_succ, List.replicate_zero, Nat.reduceAdd, Nat.reduceSub, Nat.reduceLeDiff, List.cons_append, List.nil_append, Nat.zero_add, Nat.add_zero, Nat.sub_self, Option.some.injEq, PyData.bool.injEq, PyData.int.injEq, PyData.tuple.injEq, PyData.list.injEq, PyData.str.injEq, List.cons.injEq, DL.S.va.injEq, DL.S.own.injEq, DL.S.well.injEq, DL.S.scr.injEq, and_true, true_and, exists_eq_left', exists_eq_left, exists_eq_right, exists_eq_right', exists_and_left, exists_and_right, exists_eq, exists_eq', reduceCtorEq, false_and, and_false, exists_const, if_true, if_false, Bool.false_eq_true, reduceIte, Bool.not_true, Bool.not_false, DL.bIsi, List.any_cons, List.any_nil, Bool.or_false, Bool.or_true, Bool.false_or, Bool.true_or, DL.isK, DL.opAdd_i, DL.opSub_i, DL.opLt_i, DL.opLe_i, DL.opGt_i, DL.opGe_i, DL.opEq_int, DL.opNe_int, DL.opEq_b, DL.opNe_b, DL.opEq_nn, beq_self_eq_true, DL.opEq_str, DL.opNe_str, DL.opIsN_n, DL.opNotN_n, DL.isN, DL.opIsB_b, DL.opNotB_b, DL.opNeg_i, DL.bAbs_i, DL.bMax_i, DL.bMin_i, DL.bInt_i, DL.bGcd_i, DL.bLen_l, DL.bLen_t, DL.opAdd_t, DL.opAdd_l, DL.opIx_l, DL.opIx_t, DL.opSl_t, DL.opSl_l, DL.opRev_t, DL.opRev_l, DL.bList_l, DL.bList_t, DL.bTup_l, DL.bTup_t, DL.atI0, DL.atI1, DL.atI2, DL.atI3, DL.items_t, DL.items_l]
  have hT : isTab (.tuple [.int a, .int b]) = true := by simp [isTab, a1, b1]
  have hA : isAny (.tuple [.int x, .int y, .int p, .int q']) = true := by simp [isAny, x0, y0]; omega
  have hS : isShot (.tuple [.int a, .int b]) (.tuple [.int x, .int y, .int p, .int q']) = true := by simp [isShot, x0, y0, x1, y1]; omega
  have s9 : ∀ z : Int, -100 ≤ z → z ≤ 100 → sz 900 z := fun z h1 h2 => sz_mono (k := 20) (by unfold sz; omega) (by decide)
  have up : ∀ {z : Int}, sz 900 z → sz 1000 z := fun h => sz_mono h (by decide)
  have za := s9 a (by omega) (by omega)
  have zb := s9 b (by omega) (by omega)
  have zx := s9 x (by omega) (by omega)
  have zy := s9 y (by omega) (by omega)
  have zp := s9 p (by omega) (by omega)
  have zq := s9 q' (by omega) (by omega)
  have dT : szD (.tuple [.int a, .int b]) := ⟨up za, up zb⟩
  have dS : szD (.tuple [.int x, .int y, .int p, .int q']) := ⟨up zx, up zy, up zp, up zq⟩
  have dB := anyShots_sz za zb zx zy zp zq
  by_cases h7 : w = 7
  · subst h7
    rw [if_pos (by decide)]
    refine dr1 (by omega) (by decide) (by decide) fun z p1 p2 => ⟨_, rfl, _, opEq_int, _, rfl, ?_⟩
    by_cases hz : z = 0
    · rw [if_pos (decide_eq_true hz)]
      refine dr1 (by omega) (by decide) (by decide) fun r p3 p4 => ⟨_, rfl, ?_⟩
      have key : ∀ d ∈ badSides, isNum d = false := by decide +kernel
      obtain ⟨d, hd, e⟩ := DL.atI_mem (xs := badSides) p3 p4
      have hn := key d hd
      refine ⟨d, e, ?_⟩
      have h := q d .none c (n3 - 1 - 1) (by omega) (fun h => by simp [dueOf, hn] at h)
      simp only [dueOf, hn, Int.reduceEq, Bool.false_eq_true, if_false, if_true] at h
      exact h
    · rw [if_neg (by simpa using hz)]
      refine dr1 (by omega) (by decide) (by decide) fun r p3 p4 => ⟨_, rfl, _, rfl, ?_⟩
      have hn : isNum (.int (1 + r)) = true := by simp only [isNum, decide_eq_true_eq]; omega
      rcases h3 with ⟨h, _⟩ | ⟨_, ⟨_, h, rfl⟩ | ⟨h, hc, rfl⟩⟩
      · cases h
      · have h' := q (.int (1 + r)) .none c (n3 - 1 - 1) (by omega) (fun h' => by simp [dueOf, hn, h] at h')
        simp only [dueOf, hn, h, Int.reduceEq, Bool.false_eq_true, if_false, if_true] at h'
        exact h'
      · obtain ⟨u, v, rfl, _⟩ := frac_inv h
        have h' := q (.int (1 + r)) .none (.tuple [.int u, .int v]) (n3 - 1 - 1) (by omega) (fun _ => ⟨trivial, trivial, hc, sz_mono (k := 20) (by unfold sz; omega) (by decide), trivial⟩)
        simp only [dueOf, hn, h, Int.reduceEq, if_false, if_true] at h'
        exact h'
  · rw [if_neg (by simpa using h7)]
    have fin : ∀ (s : PyData) (d : Str) (m : Nat), n ≤ m + 40 → w ≠ 6 → (∀ m', n ≤ m' + 60 → Q (.va (.tuple [.tuple [.int a, .int b], s, c, .str d])) m') →
        dDraw m [.int 4] fun r n' => ∃ d1, fz r = some d1 ∧ ∃ r1, opEq d1 (.int 0) = some r1 ∧ ∃ c1, r1 = .bool c1 ∧ if c1 = true then dDraw n' [.int 11] (fun r n' => ∃ d1, fz r = some d1 ∧ ∃ r1, opIx (.list (badTabs a b)) d1 = some r1 ∧ Q (.va (.tuple [r1, s, c, .str "table"])) n') else Q (.va (.tuple [.tuple [.int a, .int b], s, c, .str d])) n' := by
      intro s d m hm h6 hq'
      refine dr1 (by omega) (by decide) (by decide) fun z p1 p2 => ⟨_, rfl, _, opEq_int, _, rfl, ?_⟩
      by_cases hz : z = 0
      · rw [if_pos (decide_eq_true hz)]
        refine dr1 (by omega) (by decide) (by decide) fun r p3 p4 => ⟨_, rfl, ?_⟩
        obtain ⟨t, ht, e⟩ := DL.atI_mem (xs := badTabs a b) p3 p4
        have hn := badTabs_no t ht
        have h' := q t s c (m - 1 - 1) (by omega) (fun h' => by simp [dueOf, hn, h6, h7] at h')
        simp only [dueOf, hn, h6, h7, Bool.false_eq_true, if_false, if_true] at h'
        exact ⟨t, e, h'⟩
      · rw [if_neg (by simpa using hz)]
        exact hq' _ (by omega)
    have bad : ∀ (s : PyData) m', isShot (.tuple [.int a, .int b]) s = false → w ≠ 0 → w ≠ 6 → n ≤ m' + 60 → Q (.va (.tuple [.tuple [.int a, .int b], s, c, .str "shot"])) m' := by
      intro s m' hs h0 h6 hm
      have h' := q (.tuple [.int a, .int b]) s c m' hm (fun h' => by simp [dueOf, hT, hs, h0, h6, h7] at h')
      simp only [dueOf, hT, hs, h0, h6, h7, Bool.false_eq_true, if_false, if_true] at h'
      exact h'
    have cw : w = 0 ∨ w = 1 ∨ w = 2 ∨ w = 3 ∨ w = 4 ∨ w = 5 ∨ w = 6 := by omega
    have noB : ∀ s ∈ badShots x y p q' ++ farShots a b x y p q', isShot (.tuple [.int a, .int b]) s = false := by
      intro s hs
      rcases List.mem_append.mp hs with hs | hs
      · exact shot_any (badShots_any s hs)
      · exact farShots_no s hs
    have nc : ∀ {u : PyData}, isFrac u = true → szN u := by
      intro u hu
      obtain ⟨i, j, rfl, _⟩ := frac_inv hu
      trivial
    rcases cw with rfl | rfl | rfl | rfl | rfl | rfl | rfl
    · simp only [Int.reduceLT, Int.reduceEq, Int.reduceAdd, decide_false, decide_true, Bool.false_eq_true, Bool.not_false, Bool.not_true, if_false, if_true]
      obtain ⟨h, hc, rfl⟩ : isFrac c = true ∧ szD c ∧ due = "none" := by
        rcases h3 with ⟨h, _⟩ | ⟨_, ⟨h, _⟩ | h⟩
        · cases h
        · omega
        · exact h
      refine dr1 (by omega) (by decide) (by decide) fun z p1 p2 => ⟨_, rfl, _, opEq_int, _, rfl, ?_⟩
      by_cases hz : z = 0
      · rw [if_pos (decide_eq_true hz)]
        refine dr1 (by omega) (by decide) (by decide) fun r p3 p4 => ⟨_, rfl, ?_⟩
        obtain ⟨s, hs, e⟩ := DL.atI_mem (xs := badShots x y p q' ++ farShots a b x y p q') p3 p4
        exact ⟨s, e, fin s "none" _ (by omega) (by decide) fun m' hm => q (.tuple [.int a, .int b]) s c m' hm (fun _ => ⟨dT, dB s hs, hc, trivial, nc h⟩) |> fun h' => by
          simp only [dueOf, hT, Int.reduceEq, if_false, if_true] at h'
          exact h'⟩
      · rw [if_neg (by simpa using hz)]
        exact fin _ "none" _ (by omega) (by decide) fun m' hm => q (.tuple [.int a, .int b]) _ c m' hm (fun _ => ⟨dT, dS, hc, trivial, nc h⟩) |> fun h' => by
          simp only [dueOf, hT, Int.reduceEq, if_false, if_true] at h'
          exact h'
    · simp only [Int.reduceLT, Int.reduceEq, Int.reduceAdd, decide_false, decide_true, Bool.false_eq_true, Bool.not_false, Bool.not_true, if_false, if_true]
      refine dr1 (by omega) (by decide) (by decide) fun z p1 p2 => ⟨_, rfl, _, opEq_int, _, rfl, ?_⟩
      by_cases hz : z = 0
      · rw [if_pos (decide_eq_true hz)]
        refine dr1 (by omega) (by decide) (by decide) fun r p3 p4 => ⟨_, rfl, ?_⟩
        obtain ⟨s, hs, e⟩ := DL.atI_mem (xs := badShots x y p q' ++ farShots a b x y p q') p3 p4
        exact ⟨s, e, fin s "shot" _ (by omega) (by decide) fun m' hm => bad s m' (noB s hs) (by decide) (by decide) hm⟩
      · rw [if_neg (by simpa using hz)]
        refine fin _ due _ (by omega) (by decide) fun m' hm => ?_
        rcases h3 with ⟨h, _⟩ | ⟨_, ⟨_, h, rfl⟩ | ⟨h, hc, rfl⟩⟩
        · cases h
        · have h' := q (.tuple [.int a, .int b]) (.tuple [.int x, .int y, .int p, .int q']) c m' hm (fun h' => by simp [dueOf, hT, hS, h] at h')
          simp only [dueOf, hT, hS, h, Int.reduceEq, Bool.false_eq_true, if_false, if_true] at h'
          exact h'
        · have h' := q (.tuple [.int a, .int b]) (.tuple [.int x, .int y, .int p, .int q']) c m' hm (fun _ => ⟨dT, dS, hc, trivial, nc h⟩)
          simp only [dueOf, hT, hS, h, Int.reduceEq, if_false, if_true] at h'
          exact h'
    · simp only [Int.reduceLT, Int.reduceEq, Int.reduceAdd, decide_false, decide_true, Bool.false_eq_true, Bool.not_false, Bool.not_true, if_false, if_true]
      refine dr1 (by omega) (by decide) (by decide) fun z p1 p2 => ⟨_, rfl, _, opEq_int, _, rfl, ?_⟩
      by_cases hz : z = 0
      · rw [if_pos (decide_eq_true hz)]
        refine dr1 (by omega) (by decide) (by decide) fun r p3 p4 => ⟨_, rfl, ?_⟩
        obtain ⟨s, hs, e⟩ := DL.atI_mem (xs := badShots x y p q' ++ farShots a b x y p q') p3 p4
        exact ⟨s, e, fin s "shot" _ (by omega) (by decide) fun m' hm => bad s m' (noB s hs) (by decide) (by decide) hm⟩
      · rw [if_neg (by simpa using hz)]
        refine fin _ due _ (by omega) (by decide) fun m' hm => ?_
        rcases h3 with ⟨h, _⟩ | ⟨_, ⟨_, h, rfl⟩ | ⟨h, hc, rfl⟩⟩
        · cases h
        · have h' := q (.tuple [.int a, .int b]) (.tuple [.int x, .int y, .int p, .int q']) c m' hm (fun h' => by simp [dueOf, hT, hS, h] at h')
          simp only [dueOf, hT, hS, h, Int.reduceEq, Bool.false_eq_true, if_false, if_true] at h'
          exact h'
        · have h' := q (.tuple [.int a, .int b]) (.tuple [.int x, .int y, .int p, .int q']) c m' hm (fun _ => ⟨dT, dS, hc, trivial, nc h⟩)
          simp only [dueOf, hT, hS, h, Int.reduceEq, if_false, if_true] at h'
          exact h'
    · simp only [Int.reduceLT, Int.reduceEq, Int.reduceAdd, decide_false, decide_true, Bool.false_eq_true, Bool.not_false, Bool.not_true, if_false, if_true]
      refine dr1 (by omega) (by decide) (by decide) fun z p1 p2 => ⟨_, rfl, _, opEq_int, _, rfl, ?_⟩
      by_cases hz : z = 0
      · rw [if_pos (decide_eq_true hz)]
        refine dr1 (by omega) (by decide) (by decide) fun r p3 p4 => ⟨_, rfl, ?_⟩
        obtain ⟨s, hs, e⟩ := DL.atI_mem (xs := badShots x y p q' ++ farShots a b x y p q') p3 p4
        exact ⟨s, e, fin s "shot" _ (by omega) (by decide) fun m' hm => bad s m' (noB s hs) (by decide) (by decide) hm⟩
      · rw [if_neg (by simpa using hz)]
        refine fin _ due _ (by omega) (by decide) fun m' hm => ?_
        rcases h3 with ⟨h, _⟩ | ⟨_, ⟨_, h, rfl⟩ | ⟨h, hc, rfl⟩⟩
        · cases h
        · have h' := q (.tuple [.int a, .int b]) (.tuple [.int x, .int y, .int p, .int q']) c m' hm (fun h' => by simp [dueOf, hT, hS, h] at h')
          simp only [dueOf, hT, hS, h, Int.reduceEq, Bool.false_eq_true, if_false, if_true] at h'
          exact h'
        · have h' := q (.tuple [.int a, .int b]) (.tuple [.int x, .int y, .int p, .int q']) c m' hm (fun _ => ⟨dT, dS, hc, trivial, nc h⟩)
          simp only [dueOf, hT, hS, h, Int.reduceEq, if_false, if_true] at h'
          exact h'
    · simp only [Int.reduceLT, Int.reduceEq, Int.reduceAdd, decide_false, decide_true, Bool.false_eq_true, Bool.not_false, Bool.not_true, if_false, if_true]
      refine dr1 (by omega) (by decide) (by decide) fun z p1 p2 => ⟨_, rfl, _, opEq_int, _, rfl, ?_⟩
      by_cases hz : z = 0
      · rw [if_pos (decide_eq_true hz)]
        refine dr1 (by omega) (by decide) (by decide) fun r p3 p4 => ⟨_, rfl, ?_⟩
        obtain ⟨s, hs, e⟩ := DL.atI_mem (xs := badShots x y p q' ++ farShots a b x y p q') p3 p4
        exact ⟨s, e, fin s "shot" _ (by omega) (by decide) fun m' hm => bad s m' (noB s hs) (by decide) (by decide) hm⟩
      · rw [if_neg (by simpa using hz)]
        refine fin _ due _ (by omega) (by decide) fun m' hm => ?_
        rcases h3 with ⟨_, ⟨h, rfl⟩ | ⟨h, hc, rfl⟩⟩ | ⟨h, _⟩
        · have h' := q (.tuple [.int a, .int b]) (.tuple [.int x, .int y, .int p, .int q']) c m' hm (fun h' => by simp [dueOf, hT, hS, h] at h')
          simp only [dueOf, hT, hS, h, Int.reduceEq, Bool.false_eq_true, if_false, if_true] at h'
          exact h'
        · have hd : szD c := by
            cases c with
            | int j => trivial
            | _ => cases h
          have h' := q (.tuple [.int a, .int b]) (.tuple [.int x, .int y, .int p, .int q']) c m' hm (fun _ => ⟨dT, dS, hd, trivial, hc⟩)
          simp only [dueOf, hT, hS, h, Int.reduceEq, if_false, if_true] at h'
          exact h'
        · exact absurd rfl h
    · simp only [Int.reduceLT, Int.reduceEq, Int.reduceAdd, decide_false, decide_true, Bool.false_eq_true, Bool.not_false, Bool.not_true, if_false, if_true]
      obtain ⟨h, hc, rfl⟩ : isFrac c = true ∧ szD c ∧ due = "none" := by
        rcases h3 with ⟨h, _⟩ | ⟨_, ⟨h, _⟩ | h⟩
        · cases h
        · omega
        · exact h
      refine dr1 (by omega) (by decide) (by decide) fun z p1 p2 => ⟨_, rfl, _, opEq_int, _, rfl, ?_⟩
      by_cases hz : z = 0
      · rw [if_pos (decide_eq_true hz)]
        refine dr1 (by omega) (by decide) (by decide) fun r p3 p4 => ⟨_, rfl, ?_⟩
        obtain ⟨s, hs, e⟩ := DL.atI_mem (xs := badShots x y p q' ++ farShots a b x y p q') p3 p4
        refine ⟨s, e, ?_⟩
        rw [if_neg (by decide)]
        exact fin s "shot" _ (by omega) (by decide) fun m' hm => bad s m' (noB s hs) (by decide) (by decide) hm
      · rw [if_neg (by simpa using hz), if_neg (by decide)]
        refine fin _ "none" _ (by omega) (by decide) fun m' hm => ?_
        have h' := q (.tuple [.int a, .int b]) (.tuple [.int x, .int y, .int p, .int q']) c m' hm (fun _ => ⟨dT, dS, hc, trivial, nc h⟩)
        simp only [dueOf, hT, hS, Int.reduceEq, if_false, if_true] at h'
        exact h'
    · simp only [Int.reduceLT, Int.reduceEq, Int.reduceAdd, decide_false, decide_true, Bool.false_eq_true, Bool.not_false, Bool.not_true, if_false, if_true]
      obtain ⟨h, hc, rfl⟩ : isFrac c = true ∧ szD c ∧ due = "none" := by
        rcases h3 with ⟨h, _⟩ | ⟨_, ⟨h, _⟩ | h⟩
        · cases h
        · omega
        · exact h
      refine dr1 (by omega) (by decide) (by decide) fun z p1 p2 => ⟨_, rfl, _, opEq_int, _, rfl, ?_⟩
      by_cases hz : z = 0
      · rw [if_pos (decide_eq_true hz)]
        refine dr1 (by omega) (by decide) (by decide) fun r p3 p4 => ⟨_, rfl, ?_⟩
        obtain ⟨s, hs, e⟩ := DL.atI_mem (xs := badShots x y p q') p3 p4
        refine ⟨s, e, ?_⟩
        have hn := badShots_any s hs
        have h' := q .none s .none (n3 - 1 - 1) (by omega) (fun h' => by simp [dueOf, hn] at h')
        simp only [dueOf, hn, Bool.false_eq_true, if_false, if_true] at h'
        first | exact h' | (rw [if_neg (by decide)]; exact h')
      · rw [if_neg (by simpa using hz)]
        have h' := q .none (.tuple [.int x, .int y, .int p, .int q']) .none (n3 - 1) (by omega) (fun _ => ⟨trivial, dS, trivial, trivial, trivial⟩)
        simp only [dueOf, hA, if_false, if_true] at h'
        first | exact h' | (rw [if_pos (by decide)]; exact h')
section
variable {P : Program} {w : World} {K : PySem.W.Frag} {mg : Str → Option Value} {base : Heap} {CN : String → Option Addr}
theorem ok__law_case {f : Addr} {fd : FuncData} (F : Fun K "_law_case" "_law_case" s__law_case f fd) (g : G K mg CN) (c__law_desk : CalW P w K mg base 2 "_law_desk" D__law_desk) (c__law_draw : CalW P w K mg base 1 "_law_draw" dDraw) (c__law_roll : CalW P w K mg base 2 "_law_roll" D__law_roll) (c__law_third : CalW P w K mg base 2 "_law_third" D__law_third) : FnG P w K mg base 3 f fd ["well", "way"] (spW K D__law_case) := by
  have sc := sc__law_case
  exact fun_okW (m := m__law_case) (CN := CN) F sc (by decide) len__law_case (fun cdv A outer s H E C hr tk =>
    (pds_cons (pds_asg (ps_asg (pd_callW c__law_desk hr (by decide) tk (pv 0) (pda_cons pd_int pda_nil)) (dg 2 sc.nd)))
    (pds_cons (pds_asg (ps_asg (pd_callW c__law_roll hr (by decide) tk (pv 0) (pda_cons (dv 2) (pda_cons pd_int pda_nil))) (dg 3 sc.nd)))
    (pds_cons (pds_asg (ps_asg (pd_callW c__law_third hr (by decide) tk (pv 0) (pda_cons (dv 1) pda_nil)) (pdg_tup rfl (gcons (dg 4 sc.nd) (gcons (dg 5 sc.nd) pdgs_nil)))))
    (pds_cons (pds_if (pdt_cmp (or_eqD (RoomG.u64 hr)) rl_eq (dv 1) pd_int (nomark _)) (pds_cons (pds_asg (ps_asg (pd_lst (pda_cons pd_non (pda_cons pd_int (pda_cons (pd_un un_neg rl_neg pd_int) (pda_cons pd_bl (pda_cons pd_str (pda_cons (pd_tup (pda_cons pd_int pda_nil)) (pda_cons (pd_lst (pda_cons pd_int pda_nil)) (pda_cons pd_dict0 pda_nil))))))))) (dg 6 sc.nd)))
    (pds_cons (pds_if (pdt_cmp (or_eqD (RoomG.u64 hr)) rl_eq (pd_callW c__law_draw hr (by decide) tk (pv 0) (pda_cons pd_int pda_nil)) pd_int (nomark _)) (pds_one (pds_ret (pdr_of (pd_tup (pda_cons (pd_ix ix_seq rl_ix (dv 6) (pd_callW c__law_draw hr (by decide) tk (pv 0) (pda_cons pd_int pda_nil))) (pda_cons pd_non (pda_cons (dv 4) (pda_cons pd_str pda_nil)))))))) pds_nil)
    (pds_one (pds_ret (pdr_of (pd_tup (pda_cons (pd_op or_add rl_add pd_int (pd_callW c__law_draw hr (by decide) tk (pv 0) (pda_cons pd_int pda_nil))) (pda_cons pd_non (pda_cons (dv 4) (pda_cons (dv 5) pda_nil)))))))))) pds_nil)
    (pds_cons (pds_asg (ps_asg (dv 3) (pdg_tup rfl (gcons (dg 7 sc.nd) (gcons (dg 8 sc.nd) (gcons (dg 9 sc.nd) (gcons (dg 10 sc.nd) pdgs_nil)))))))
    (pds_cons (pds_asg (ps_asg (pd_lst (pda_cons pd_non (pda_cons (pd_tup pda_nil) (pda_cons (pd_callTy call_list_of rc_list g.b_list (by decide +kernel) (pda_cons (dv 3) pda_nil)) (pda_cons (pd_tup (pda_cons (dv 7) (pda_cons (dv 8) (pda_cons (dv 9) pda_nil)))) (pda_cons (pd_tup (pda_cons (dv 7) (pda_cons (dv 8) (pda_cons pd_int (pda_cons pd_int pda_nil))))) (pda_cons (pd_tup (pda_cons (pd_un un_neg rl_neg pd_int) (pda_cons (dv 8) (pda_cons (dv 9) (pda_cons (dv 10) pda_nil))))) pda_nil))))))) (dg 11 sc.nd)))
    (pds_cons (pds_asg (ps_asg (pd_op or_add rl_add (dv 11) (pd_lst (pda_cons (pd_tup (pda_cons (dv 7) (pda_cons (pd_un un_neg rl_neg pd_int) (pda_cons (dv 9) (pda_cons (dv 10) pda_nil))))) (pda_cons pd_str (pda_cons (pd_tup (pda_cons (dv 7) (pda_cons (dv 8) (pda_cons (dv 9) (pda_cons pd_non pda_nil))))) (pda_cons (pd_tup (pda_cons pd_bl (pda_cons (dv 8) (pda_cons (dv 9) (pda_cons (dv 10) pda_nil))))) (pda_cons (pd_tup (pda_cons (dv 7) (pda_cons (dv 8) (pda_cons pd_str (pda_cons (dv 10) pda_nil))))) (pda_cons pd_dict0 pda_nil)))))))) (dg 11 sc.nd)))
    (pds_cons (pds_asg (ps_asg (pd_lst (pda_cons (pd_tup (pda_cons (pd_op or_add rl_add (pd_ix ix_seq rl_ix (dv 2) pd_int) pd_int) (pda_cons (dv 8) (pda_cons (dv 9) (pda_cons (dv 10) pda_nil))))) (pda_cons (pd_tup (pda_cons (dv 7) (pda_cons (pd_op or_add rl_add (pd_ix ix_seq rl_ix (dv 2) pd_int) pd_int) (pda_cons (dv 9) (pda_cons (dv 10) pda_nil))))) pda_nil))) (dg 12 sc.nd)))
    (pds_cons (pds_if (pdt_ofw (pdw_and (pdt_cmp op_gt rl_cmpI (dv 1) pd_int (nomark _)) (pdw_and1 (pdt_cmp (or_eqD (RoomG.u64 hr)) rl_eq (pd_callW c__law_draw hr (by decide) tk (pv 0) (pda_cons pd_int pda_nil)) pd_int (nomark _))))) (pds_cons (pds_asg (ps_asg (pd_ifE (pdt_cmp (or_neD (RoomG.u64 hr)) rl_ne (dv 1) pd_int (nomark _)) (pd_op or_add rl_add (dv 11) (dv 12)) (dv 11)) (dg 13 sc.nd)))
    (pds_one (pds_par2 (ps_par2 (i := 3) (j := 5) rfl sc.nd rfl rfl (by decide) rfl rfl (pdar_cons (pdr_of (pd_ix ix_seq rl_ix (dv 13) (pd_callW c__law_draw hr (by decide) tk (pv 0) (pda_cons (pd_callB cr_len rc_len g.b_len (by decide +kernel) (pda_cons (dv 13) pda_nil)) pda_nil)))) (pdar_cons (pdr_of pd_str) pdar_nil)) rfl)))) pds_nil)
    (pds_cons (pds_if (pdt_ofw (pdw_and (pdt_cmp (or_eqD (RoomG.u64 hr)) rl_eq (dv 1) pd_int (nomark _)) (pdw_and1 (pdt_cmp (or_eqD (RoomG.u64 hr)) rl_eq (pd_callW c__law_draw hr (by decide) tk (pv 0) (pda_cons pd_int pda_nil)) pd_int (nomark _))))) (pds_one (pds_asg (ps_asg (pd_ix ix_seq rl_ix (pd_op or_add rl_add (dv 11) (dv 12)) (pd_callW c__law_draw hr (by decide) tk (pv 0) (pda_cons (pd_op or_add rl_add (pd_callB cr_len rc_len g.b_len (by decide +kernel) (pda_cons (dv 11) pda_nil)) pd_int) pda_nil))) (dg 3 sc.nd)))) pds_nil)
    (pds_cons (pds_if (pdt_cmp (or_eqD (RoomG.u64 hr)) rl_eq (dv 1) pd_int (nomark _)) (pds_one (pds_ret (pdr_of (pd_tup (pda_cons pd_non (pda_cons (dv 3) (pda_cons pd_non (pda_cons (pd_ifE (pdt_cmp (or_neD (RoomG.u64 hr)) rl_ne (dv 5) pd_str (nomark _)) pd_str pd_str) pda_nil)))))))) pds_nil)
    (pds_cons (pds_if (pdt_ofw (pdw_and (pdt_cmp (or_eqD (RoomG.u64 hr)) rl_eq (dv 1) pd_int (nomark _)) (pdw_and1 (pdt_cmp (or_eqD (RoomG.u64 hr)) rl_eq (dv 5) pd_str (nomark _))))) (pds_one (pds_asg (ps_asg pd_str (dg 5 sc.nd)))) pds_nil)
    (pds_cons (pds_if (pdt_cmp (or_eqD (RoomG.u64 hr)) rl_eq (pd_callW c__law_draw hr (by decide) tk (pv 0) (pda_cons pd_int pda_nil)) pd_int (nomark _)) (pds_cons (pds_asg (ps_asg (pd_lst (pda_cons pd_non (pda_cons (pd_tup pda_nil) (pda_cons (pd_callTy call_list_of rc_list g.b_list (by decide +kernel) (pda_cons (dv 2) pda_nil)) (pda_cons (pd_tup (pda_cons pd_int (pda_cons pd_int pda_nil))) (pda_cons (pd_tup (pda_cons pd_int (pda_cons pd_int pda_nil))) (pda_cons (pd_tup (pda_cons pd_int pda_nil)) (pda_cons (pd_tup (pda_cons pd_int (pda_cons pd_int (pda_cons pd_int pda_nil)))) (pda_cons pd_str (pda_cons pd_int (pda_cons (pd_tup (pda_cons pd_bl (pda_cons pd_int pda_nil))) (pda_cons pd_dict0 pda_nil)))))))))))) (dg 13 sc.nd)))
    (pds_one (pds_par2 (ps_par2 (i := 2) (j := 5) rfl sc.nd rfl rfl (by decide) rfl rfl (pdar_cons (pdr_of (pd_ix ix_seq rl_ix (dv 13) (pd_callW c__law_draw hr (by decide) tk (pv 0) (pda_cons pd_int pda_nil)))) (pdar_cons (pdr_of pd_str) pdar_nil)) rfl)))) pds_nil)
    (pds_one (pds_ret (pdr_of (pd_tup (pda_cons (dv 2) (pda_cons (dv 3) (pda_cons (dv 4) (pda_cons (dv 5) pda_nil)))))))))))))))))))))) rd__law_case
end
end LW
namespace LW
open PySem PySem.Spec PyProof.Rows L2 DL
def m_law : MS :=
  mSeq (mFor (miRng1 (mCons (mCallB bMax (mCons (mC (.int 24)) (mCons (mCallB bMin (mCons (mC (.int 48)) (mCons (mLenScr 0) (mNil)))) (mNil)))) (mNil))) (mgName 1) (mSeq (mAsgR 2 (mWell 0 (mVar 1)))
  (mSeq (mAsg (mOp2 opMod (mCallB bInt (mCons (mVar 1) (mNil))) (mC (.int 8))) (mgName 3))
  (mSeq (mAsg (mCallW D__law_case 2 (mCons (mVar 3) (mNil))) (mgTup 4 (mgCons (mgName 4) (mgCons (mgName 5) (mgCons (mgName 6) (mgCons (mgName 7) (mgNil)))))))
  (mIf (mT (mOp2 opNe (mCall D__law_told wF (mCons (mVar 3) (mCons (mVar 4) (mCons (mVar 5) (mCons (mVar 6) (mNil)))))) (mVar 7))) (mRet (mrOf (mC (.bool false)))) (mNext))))))
  (mRet (mrOf (mC (.bool true))))
theorem say_ne (o : Option String) : opNe (sayOf o) (sayOf o) = some (.bool false) := by
  unfold sayOf
  split <;> first | (rw [opNe_str]; simp; done) | rfl
theorem rd_law : ∀ ns : List Int, ns.length ≤ 63 → (∀ z ∈ ns, Builtin.Int.intBits z ≤ 1048576) → m_law endL (.scr ns :: List.replicate (["script", "at", "well", "way", "a", "b", "c", "due"].length - 1) .no) := by
  intro ns hl hb
  unfold m_law
  show mSeq _ _ _ [.scr ns, .no, .no, .no, .no, .no, .no, .no]
  simp only [DL.mSeq, DL.mAsg, DL.mAsgR, DL.mAsgM, DL.mrs, DL.ssets, DL.mIf, DL.mRet, DL.mRetN, DL.mrOf, DL.mrLst, DL.mrCat, DL.mrCall, DL.mDrop, DL.mNext, DL.mBreak, DL.mCont, DL.mC, DL.mVar, DL.mOp2, DL.mOp1, DL.mAnd, DL.mOr, DL.mNot, DL.mIfE, DL.mChain, DL.mNil, DL.mCons, DL.mTup, DL.mLst, DL.mCallB, DL.mDict0, DL.mPart, DL.mNoPart, DL.mSl, DL.mCall, DL.mCallK, DL.mCallW, DL.mLenScr, DL.mWell, DL.mT, DL.mTAnd, DL.mTOr, DL.mTNot, DL.mTYes, DL.mgName, DL.mgNil_n, DL.mgCons_c, DL.mgTup_t, DL.mgTup_l, DL.miSeq, DL.miRng1, DL.miRng2, DL.mRaise, DL.mApp, DL.mFor, DL.mLc, DL.mrLc, DL.sget, DL.sset, DL.slots0, DL.slotsW, DL.endP, DL.endW, DL.endL, DL.wF, DL.fz_va, DL.fz_own, List.length_cons, List.length_nil, List.map_cons, List.map_nil, List.replicate_succ, List.replicate_zero, Nat.reduceAdd, Nat.reduceSub, Nat.reduceLeDiff, List.cons_append, List.nil_append, Nat.zero_add, Nat.add_zero, Nat.sub_self, Option.some.injEq, PyData.bool.injEq, PyData.int.injEq, PyData.tuple.injEq, PyData.list.injEq, PyData.str.injEq, List.cons.injEq, DL.S.va.injEq, DL.S.own.injEq, DL.S.well.injEq, DL.S.scr.injEq, and_true, true_and, exists_eq_left', exists_eq_left, exists_eq_right, exists_eq_right', exists_and_left, exists_and_right, exists_eq, exists_eq', reduceCtorEq, false_and, and_false, exists_const, if_true, if_false, Bool.false_eq_true, reduceIte, Bool.not_true, Bool.not_false, DL.bIsi, List.any_cons, List.any_nil, Bool.or_false, Bool.or_true, Bool.false_or, Bool.true_or, DL.isK, DL.opAdd_i, DL.opSub_i, DL.opLt_i, DL.opLe_i, DL.opGt_i, DL.opGe_i, DL.opEq_int, DL.opNe_int, DL.opEq_b, DL.opNe_b, DL.opEq_nn, beq_self_eq_true, DL.opEq_str, DL.opNe_str, DL.opIsN_n, DL.opNotN_n, DL.isN, DL.opIsB_b, DL.opNotB_b, DL.opNeg_i, DL.bAbs_i, DL.bMax_i, DL.bMin_i, DL.bInt_i, DL.bGcd_i, DL.bLen_l, DL.bLen_t, DL.opAdd_t, DL.opAdd_l, DL.opIx_l, DL.opIx_t, DL.opSl_t, DL.opSl_l, DL.opRev_t, DL.opRev_l, DL.bList_l, DL.bList_t, DL.bTup_l, DL.bTup_t, DL.atI0, DL.atI1, DL.atI2, DL.atI3, DL.items_t, DL.items_l]
  generalize hk : (if (if (ns.length : Int) < 48 then (ns.length : Int) else 48) > 24 then if (ns.length : Int) < 48 then (ns.length : Int) else 48 else 24) = k
  have k0 : 0 ≤ k := by rw [← hk]; split <;> (try split) <;> omega
  have k1 : k ≤ 48 := by rw [← hk]; split <;> (try split) <;> omega
  refine ⟨by omega, by omega, ?_⟩
  refine forL_run (fun r s => (∀ d ∈ r, ∃ j : Int, d = .int j ∧ 0 ≤ j ∧ j < 2 ^ 20) ∧ ∃ x1 x2 x3 x4 x5 x6 x7, s = [.scr ns, x1, x2, x3, x4, x5, x6, x7]) ?_ ?_ _ _ ⟨?_, _, _, _, _, _, _, _, rfl⟩
  · rintro d r s N ⟨hd, x1, x2, x3, x4, x5, x6, x7, rfl⟩ hN
    obtain ⟨j, rfl, j0, j1⟩ := hd d (by simp)
    have hd' := fun d h => hd d (List.mem_cons_of_mem _ h)
    simp only [DL.mSeq, DL.mAsg, DL.mAsgR, DL.mAsgM, DL.mrs, DL.ssets, DL.mIf, DL.mRet, DL.mRetN, DL.mrOf, DL.mrLst, DL.mrCat, DL.mrCall, DL.mDrop, DL.mNext, DL.mBreak, DL.mCont, DL.mC, DL.mVar, DL.mOp2, DL.mOp1, DL.mAnd, DL.mOr, DL.mNot, DL.mIfE, DL.mChain, DL.mNil, DL.mCons, DL.mTup, DL.mLst, DL.mCallB, DL.mDict0, DL.mPart, DL.mNoPart, DL.mSl, DL.mCall, DL.mCallK, DL.mCallW, DL.mLenScr, DL.mWell, DL.mT, DL.mTAnd, DL.mTOr, DL.mTNot, DL.mTYes, DL.mgName, DL.mgNil_n, DL.mgCons_c, DL.mgTup_t, DL.mgTup_l, DL.miSeq, DL.miRng1, DL.miRng2, DL.mRaise, DL.mApp, DL.mFor, DL.mLc, DL.mrLc, DL.sget, DL.sset, DL.slots0, DL.slotsW, DL.endP, DL.endW, DL.endL, DL.wF, DL.fz_va, DL.fz_own, List.length_cons, List.length_nil, List.map_cons, List.map_nil, List.replicate_succ, List.replicate_zero, Nat.reduceAdd, Nat.reduceSub, Nat.reduceLeDiff, List.cons_append, List.nil_append, Nat.zero_add, Nat.add_zero, Nat.sub_self, Option.some.injEq, PyData.bool.injEq, PyData.int.injEq, PyData.tuple.injEq, PyData.list.injEq, PyData.str.injEq, List.cons.injEq, DL.S.va.injEq, DL.S.own.injEq, DL.S.well.injEq, DL.S.scr.injEq, and_true, true_and, exists_eq_left', exists_eq_left, exists_eq_right, exists_eq_right', exists_and_left, exists_and_right, exists_eq, exists_eq', reduceCtorEq, false_and, and_false, exists_const, if_true, if_false, Bool.false_eq_true, reduceIte, Bool.not_true, Bool.not_false, DL.bIsi, List.any_cons, List.any_nil, Bool.or_false, Bool.or_true, Bool.false_or, Bool.true_or, DL.isK, DL.opAdd_i, DL.opSub_i, DL.opLt_i, DL.opLe_i, DL.opGt_i, DL.opGe_i, DL.opEq_int, DL.opNe_int, DL.opEq_b, DL.opNe_b, DL.opEq_nn, beq_self_eq_true, DL.opEq_str, DL.opNe_str, DL.opIsN_n, DL.opNotN_n, DL.isN, DL.opIsB_b, DL.opNotB_b, DL.opNeg_i, DL.bAbs_i, DL.bMax_i, DL.bMin_i, DL.bInt_i, DL.bGcd_i, DL.bLen_l, DL.bLen_t, DL.opAdd_t, DL.opAdd_l, DL.opIx_l, DL.opIx_t, DL.opSl_t, DL.opSl_l, DL.opRev_t, DL.opRev_l, DL.bList_l, DL.bList_t, DL.bTup_l, DL.bTup_t, DL.atI0, DL.atI1, DL.atI2, DL.atI3, DL.items_t, DL.items_l]
    refine ⟨hl, hb, j0, j1, ?_⟩
    refine ⟨_, opMod_ok (by decide), ?_⟩
    have m0 := Int.emod_nonneg j (show (8 : Int) ≠ 0 by decide)
    have m1 := Int.emod_lt_of_pos j (show (0 : Int) < 8 by decide)
    generalize j % 8 = w at *
    refine ⟨w, rfl, m0, by omega, by decide, fun a b c n' hn' hz => ⟨_, rfl, ?_⟩⟩
    simp only [DL.mSeq, DL.mAsg, DL.mAsgR, DL.mAsgM, DL.mrs, DL.ssets, DL.mIf, DL.mRet, DL.mRetN, DL.mrOf, DL.mrLst, DL.mrCat, DL.mrCall, DL.mDrop, DL.mNext, DL.mBreak, DL.mCont, DL.mC, DL.mVar, DL.mOp2, DL.mOp1, DL.mAnd, DL.mOr, DL.mNot, DL.mIfE, DL.mChain, DL.mNil, DL.mCons, DL.mTup, DL.mLst, DL.mCallB, DL.mDict0, DL.mPart, DL.mNoPart, DL.mSl, DL.mCall, DL.mCallK, DL.mCallW, DL.mLenScr, DL.mWell, DL.mT, DL.mTAnd, DL.mTOr, DL.mTNot, DL.mTYes, DL.mgName, DL.mgNil_n, DL.mgCons_c, DL.mgTup_t, DL.mgTup_l, DL.miSeq, DL.miRng1, DL.miRng2, DL.mRaise, DL.mApp, DL.mFor, DL.mLc, DL.mrLc, DL.sget, DL.sset, DL.slots0, DL.slotsW, DL.endP, DL.endW, DL.endL, DL.wF, DL.fz_va, DL.fz_own, List.length_cons, List.length_nil, List.map_cons, List.map_nil, List.replicate_succ, List.replicate_zero, Nat.reduceAdd, Nat.reduceSub, Nat.reduceLeDiff, List.cons_append, List.nil_append, Nat.zero_add, Nat.add_zero, Nat.sub_self, Option.some.injEq, PyData.bool.injEq, PyData.int.injEq, PyData.tuple.injEq, PyData.list.injEq, PyData.str.injEq, List.cons.injEq, DL.S.va.injEq, DL.S.own.injEq, DL.S.well.injEq, DL.S.scr.injEq, and_true, true_and, exists_eq_left', exists_eq_left, exists_eq_right, exists_eq_right', exists_and_left, exists_and_right, exists_eq, exists_eq', reduceCtorEq, false_and, and_false, exists_const, if_true, if_false, Bool.false_eq_true, reduceIte, Bool.not_true, Bool.not_false, DL.bIsi, List.any_cons, List.any_nil, Bool.or_false, Bool.or_true, Bool.false_or, Bool.true_or, DL.isK, DL.opAdd_i, DL.opSub_i, DL.opLt_i, DL.opLe_i, DL.opGt_i, DL.opGe_i, DL.opEq_int, DL.opNe_int, DL.opEq_b, DL.opNe_b, DL.opEq_nn, beq_self_eq_true, DL.opEq_str, DL.opNe_str, DL.opIsN_n, DL.opNotN_n, DL.isN, DL.opIsB_b, DL.opNotB_b, DL.opNeg_i, DL.bAbs_i, DL.bMax_i, DL.bMin_i, DL.bInt_i, DL.bGcd_i, DL.bLen_l, DL.bLen_t, DL.opAdd_t, DL.opAdd_l, DL.opIx_l, DL.opIx_t, DL.opSl_t, DL.opSl_l, DL.opRev_t, DL.opRev_l, DL.bList_l, DL.bList_t, DL.bTup_l, DL.bTup_t, DL.atI0, DL.atI1, DL.atI2, DL.atI3, DL.items_t, DL.items_l]
    refine ⟨w, a, b, c, rfl, m0, by omega, hz, _, rfl, _, say_ne _, _, rfl, ?_⟩
    rw [if_neg (by decide)]
    exact hN _ ⟨hd', _, _, _, _, _, _, _, rfl⟩
  · rintro s ⟨_, x1, x2, x3, x4, x5, x6, x7, rfl⟩
    simp only [DL.mSeq, DL.mAsg, DL.mAsgR, DL.mAsgM, DL.mrs, DL.ssets, DL.mIf, DL.mRet, DL.mRetN, DL.mrOf, DL.mrLst, DL.mrCat, DL.mrCall, DL.mDrop, DL.mNext, DL.mBreak, DL.mCont, DL.mC, DL.mVar, DL.mOp2, DL.mOp1, DL.mAnd, DL.mOr, DL.mNot, DL.mIfE, DL.mChain, DL.mNil, DL.mCons, DL.mTup, DL.mLst, DL.mCallB, DL.mDict0, DL.mPart, DL.mNoPart, DL.mSl, DL.mCall, DL.mCallK, DL.mCallW, DL.mLenScr, DL.mWell, DL.mT, DL.mTAnd, DL.mTOr, DL.mTNot, DL.mTYes, DL.mgName, DL.mgNil_n, DL.mgCons_c, DL.mgTup_t, DL.mgTup_l, DL.miSeq, DL.miRng1, DL.miRng2, DL.mRaise, DL.mApp, DL.mFor, DL.mLc, DL.mrLc, DL.sget, DL.sset, DL.slots0, DL.slotsW, DL.endP, DL.endW, DL.endL, DL.wF, DL.fz_va, DL.fz_own, List.length_cons, List.length_nil, List.map_cons, List.map_nil, List.replicate_succ, List.replicate_zero, Nat.reduceAdd, Nat.reduceSub, Nat.reduceLeDiff, List.cons_append, List.nil_append, Nat.zero_add, Nat.add_zero, Nat.sub_self, Option.some.injEq, PyData.bool.injEq, PyData.int.injEq, PyData.tuple.injEq, PyData.list.injEq, PyData.str.injEq, List.cons.injEq, DL.S.va.injEq, DL.S.own.injEq, DL.S.well.injEq, DL.S.scr.injEq, and_true, true_and, exists_eq_left', exists_eq_left, exists_eq_right, exists_eq_right', exists_and_left, exists_and_right, exists_eq, exists_eq', reduceCtorEq, false_and, and_false, exists_const, if_true, if_false, Bool.false_eq_true, reduceIte, Bool.not_true, Bool.not_false, DL.bIsi, List.any_cons, List.any_nil, Bool.or_false, Bool.or_true, Bool.false_or, Bool.true_or, DL.isK, DL.opAdd_i, DL.opSub_i, DL.opLt_i, DL.opLe_i, DL.opGt_i, DL.opGe_i, DL.opEq_int, DL.opNe_int, DL.opEq_b, DL.opNe_b, DL.opEq_nn, beq_self_eq_true, DL.opEq_str, DL.opNe_str, DL.opIsN_n, DL.opNotN_n, DL.isN, DL.opIsB_b, DL.opNotB_b, DL.opNeg_i, DL.bAbs_i, DL.bMax_i, DL.bMin_i, DL.bInt_i, DL.bGcd_i, DL.bLen_l, DL.bLen_t, DL.opAdd_t, DL.opAdd_l, DL.opIx_l, DL.opIx_t, DL.opSl_t, DL.opSl_l, DL.opRev_t, DL.opRev_l, DL.bList_l, DL.bList_t, DL.bTup_l, DL.bTup_t, DL.atI0, DL.atI1, DL.atI2, DL.atI3, DL.items_t, DL.items_l]
  · intro d hd
    unfold rangeL at hd
    obtain ⟨i, hi, rfl⟩ := List.mem_map.mp hd
    have := List.mem_range.mp hi
    exact ⟨_, rfl, by omega, by omega⟩
section
variable {P : Program} {w : World} {K : PySem.W.Frag} {mg : Str → Option Value} {base : Heap} {CN : String → Option Addr}
theorem ok_law {f : Addr} {fd : FuncData} (F : Fun K "law" "law" s_law f fd) (g : G K mg CN) (c__law_case : CalW P w K mg base 3 "_law_case" D__law_case) (c__law_told : CalP P w K mg base CN 10 "_law_told" D__law_told) (c__law_well : CalL P w K mg base 1 "_law_well") : FnG P w K mg base 11 f fd ["script"] (spL K) := by
  have sc := sc_law
  exact fun_okL (m := m_law) (CN := CN) F sc (by decide) (fun cdv A outer s H E C hw hr tk =>
    (pds_cons (pds_for (ps_for psw rfl (d_range1 g.b_range (pda_cons (pd_callB (call_max2 rfl) rc_max g.b_max (by decide +kernel) (pda_cons pd_int (pda_cons (pd_callB (call_min2 rfl) rc_min g.b_min (by decide +kernel) (pda_cons pd_int (pda_cons (pd_lenScr (x := "") g.b_len (i := 0) rfl (.inl rfl)) pda_nil))) pda_nil))) pda_nil)) (dg 1 sc.nd) (pds_cons (pds_asgR (ps_set (i := 2) sc.nd rfl (.inl rfl) (pdr_well hw c__law_well hr (by decide) tk (pv 0) (dv 1))))
    (pds_cons (pds_asg (ps_asg (pd_op op_mod rl_mod (pd_callTy cr_int rc_int g.b_int (by decide +kernel) (pda_cons (dv 1) pda_nil)) pd_int) (dg 3 sc.nd)))
    (pds_cons (pds_asg (ps_asg (pd_callW c__law_case hr (by decide) tk (pv 2) (pda_cons (dv 3) pda_nil)) (pdg_tup rfl (gcons (dg 4 sc.nd) (gcons (dg 5 sc.nd) (gcons (dg 6 sc.nd) (gcons (dg 7 sc.nd) pdgs_nil)))))))
    (pds_one (pds_if (pdt_cmp (or_neD (RoomG.u64 hr)) rl_ne (pd_call c__law_told hr (by decide) tk (pda_cons (dv 3) (pda_cons (dv 4) (pda_cons (dv 5) (pda_cons (dv 6) pda_nil))))) (dv 7) (nomark _)) (pds_one (pds_ret (pdr_of pd_bl))) pds_nil)))))))
    (pds_one (pds_ret (pdr_of pd_bl))))) rd_law
end
end LW
namespace LW
open PySem PySem.Spec PyProof.Rows L2 DL
theorem all_mk {l : PySem.W.OpenLaw} {w : World} {K : PySem.W.Frag} {h : Heap} {mg : Str → Option Value} {fa f1 f2 f3 f4 f5 f6 f7 f8 f9 f10 f11 f12 f13 f14 f15 f16 f17 f18 f19 f20 f21 f22 f23 f24 f25 f26 f27 f28 f29 f30 f31 f32 f33 C_InvalidNumber C_InvalidShot C_InvalidSide C_InvalidTable C_InvalidTime C_ShotError : Addr} (X : K.In h) (G0 : h.Ns mainGlobals mg) (hfa : mg "law" = some (.ref fa))
    {od1 an1 od2 an2 od3 an3 od4 an4 od5 an5 od6 an6 od7 an7 od8 an8 od9 an9 od10 an10 od11 an11 od12 an12 od13 an13 od14 an14 od15 an15 od16 an16 od17 an17 od18 an18 od19 an19 od20 an20 od21 an21 od22 an22 od23 an23 od24 an24 od25 an25 od26 an26 od27 an27 od28 an28 od29 an29 od30 an30 od31 an31 od32 an32 od33 an33 : Option Addr} {sl1 sl2 sl3 sl4 sl5 sl6 sl7 sl8 sl9 sl10 sl11 sl12 sl13 sl14 sl15 sl16 sl17 sl18 sl19 sl20 sl21 sl22 sl23 sl24 sl25 sl26 sl27 sl28 sl29 sl30 sl31 sl32 sl33 : Array (Option Value)} {oc1 kV1 dc1 pm1 cd1 ct1 oc2 kV2 dc2 pm2 cd2 ct2 oc3 kV3 dc3 pm3 cd3 ct3 oc4 kV4 dc4 pm4 cd4 ct4 oc5 kV5 dc5 pm5 cd5 ct5 oc6 kV6 dc6 pm6 cd6 ct6 oc7 kV7 dc7 pm7 cd7 ct7 oc8 kV8 dc8 pm8 cd8 ct8 oc9 kV9 dc9 pm9 cd9 ct9 oc10 kV10 dc10 pm10 cd10 ct10 oc11 kV11 dc11 pm11 cd11 ct11 oc12 kV12 dc12 pm12 cd12 ct12 oc13 kV13 dc13 pm13 cd13 ct13 oc14 kV14 dc14 pm14 cd14 ct14 oc15 kV15 dc15 pm15 cd15 ct15 oc16 kV16 dc16 pm16 cd16 ct16 oc17 kV17 dc17 pm17 cd17 ct17 oc18 kV18 dc18 pm18 cd18 ct18 oc19 kV19 dc19 pm19 cd19 ct19 oc20 kV20 dc20 pm20 cd20 ct20 oc21 kV21 dc21 pm21 cd21 ct21 oc22 kV22 dc22 pm22 cd22 ct22 oc23 kV23 dc23 pm23 cd23 ct23 oc24 kV24 dc24 pm24 cd24 ct24 oc25 kV25 dc25 pm25 cd25 ct25 oc26 kV26 dc26 pm26 cd26 ct26 oc27 kV27 dc27 pm27 cd27 ct27 oc28 kV28 dc28 pm28 cd28 ct28 oc29 kV29 dc29 pm29 cd29 ct29 oc30 kV30 dc30 pm30 cd30 ct30 oc31 kV31 dc31 pm31 cd31 ct31 oc32 kV32 dc32 pm32 cd32 ct32 oc33 kV33 dc33 pm33 cd33 ct33 : Value}
    (a1 : PySem.W.nsIn K mainGlobals "is_whole" = some (some (.ref f1))) (l1 : K.lookup f1 = some ⟨oc1, od1, .func (PySem.W.fnOf "is_whole" "is_whole" (defArgs s_is_whole) (defBody s_is_whole) (defScope s_is_whole) .none kV1 dc1 pm1 an1 cd1 ct1), sl1⟩) (c1 : PySem.W.codeIn K cd1 "is_whole" = true) (k1 : PySem.W.keepIn K (.ref f1) = true)
    (a2 : PySem.W.nsIn K mainGlobals "are_whole" = some (some (.ref f2))) (l2 : K.lookup f2 = some ⟨oc2, od2, .func (PySem.W.fnOf "are_whole" "are_whole" (defArgs s_are_whole) (defBody s_are_whole) (defScope s_are_whole) .none kV2 dc2 pm2 an2 cd2 ct2), sl2⟩) (c2 : PySem.W.codeIn K cd2 "are_whole" = true) (k2 : PySem.W.keepIn K (.ref f2) = true)
    (a3 : PySem.W.nsIn K mainGlobals "fraction_of" = some (some (.ref f3))) (l3 : K.lookup f3 = some ⟨oc3, od3, .func (PySem.W.fnOf "fraction_of" "fraction_of" (defArgs s_fraction_of) (defBody s_fraction_of) (defScope s_fraction_of) .none kV3 dc3 pm3 an3 cd3 ct3), sl3⟩) (c3 : PySem.W.codeIn K cd3 "fraction_of" = true) (k3 : PySem.W.keepIn K (.ref f3) = true)
    (a4 : PySem.W.nsIn K mainGlobals "_line_of" = some (some (.ref f4))) (l4 : K.lookup f4 = some ⟨oc4, od4, .func (PySem.W.fnOf "_line_of" "_line_of" (defArgs s__line_of) (defBody s__line_of) (defScope s__line_of) .none kV4 dc4 pm4 an4 cd4 ct4), sl4⟩) (c4 : PySem.W.codeIn K cd4 "_line_of" = true) (k4 : PySem.W.keepIn K (.ref f4) = true)
    (a5 : PySem.W.nsIn K mainGlobals "lines_of" = some (some (.ref f5))) (l5 : K.lookup f5 = some ⟨oc5, od5, .func (PySem.W.fnOf "lines_of" "lines_of" (defArgs s_lines_of) (defBody s_lines_of) (defScope s_lines_of) .none kV5 dc5 pm5 an5 cd5 ct5), sl5⟩) (c5 : PySem.W.codeIn K cd5 "lines_of" = true) (k5 : PySem.W.keepIn K (.ref f5) = true)
    (a6 : PySem.W.nsIn K mainGlobals "is_table" = some (some (.ref f6))) (l6 : K.lookup f6 = some ⟨oc6, od6, .func (PySem.W.fnOf "is_table" "is_table" (defArgs s_is_table) (defBody s_is_table) (defScope s_is_table) .none kV6 dc6 pm6 an6 cd6 ct6), sl6⟩) (c6 : PySem.W.codeIn K cd6 "is_table" = true) (k6 : PySem.W.keepIn K (.ref f6) = true)
    (a7 : PySem.W.nsIn K mainGlobals "check_table" = some (some (.ref f7))) (l7 : K.lookup f7 = some ⟨oc7, od7, .func (PySem.W.fnOf "check_table" "check_table" (defArgs s_check_table) (defBody s_check_table) (defScope s_check_table) .none kV7 dc7 pm7 an7 cd7 ct7), sl7⟩) (c7 : PySem.W.codeIn K cd7 "check_table" = true) (k7 : PySem.W.keepIn K (.ref f7) = true)
    (a8 : PySem.W.nsIn K mainGlobals "is_any_shot" = some (some (.ref f8))) (l8 : K.lookup f8 = some ⟨oc8, od8, .func (PySem.W.fnOf "is_any_shot" "is_any_shot" (defArgs s_is_any_shot) (defBody s_is_any_shot) (defScope s_is_any_shot) .none kV8 dc8 pm8 an8 cd8 ct8), sl8⟩) (c8 : PySem.W.codeIn K cd8 "is_any_shot" = true) (k8 : PySem.W.keepIn K (.ref f8) = true)
    (a9 : PySem.W.nsIn K mainGlobals "is_shot" = some (some (.ref f9))) (l9 : K.lookup f9 = some ⟨oc9, od9, .func (PySem.W.fnOf "is_shot" "is_shot" (defArgs s_is_shot) (defBody s_is_shot) (defScope s_is_shot) .none kV9 dc9 pm9 an9 cd9 ct9), sl9⟩) (c9 : PySem.W.codeIn K cd9 "is_shot" = true) (k9 : PySem.W.keepIn K (.ref f9) = true)
    (a10 : PySem.W.nsIn K mainGlobals "is_fraction" = some (some (.ref f10))) (l10 : K.lookup f10 = some ⟨oc10, od10, .func (PySem.W.fnOf "is_fraction" "is_fraction" (defArgs s_is_fraction) (defBody s_is_fraction) (defScope s_is_fraction) .none kV10 dc10 pm10 an10 cd10 ct10), sl10⟩) (c10 : PySem.W.codeIn K cd10 "is_fraction" = true) (k10 : PySem.W.keepIn K (.ref f10) = true)
    (a11 : PySem.W.nsIn K mainGlobals "_fold" = some (some (.ref f11))) (l11 : K.lookup f11 = some ⟨oc11, od11, .func (PySem.W.fnOf "_fold" "_fold" (defArgs s__fold) (defBody s__fold) (defScope s__fold) .none kV11 dc11 pm11 an11 cd11 ct11), sl11⟩) (c11 : PySem.W.codeIn K cd11 "_fold" = true) (k11 : PySem.W.keepIn K (.ref f11) = true)
    (a12 : PySem.W.nsIn K mainGlobals "check_time" = some (some (.ref f12))) (l12 : K.lookup f12 = some ⟨oc12, od12, .func (PySem.W.fnOf "check_time" "check_time" (defArgs s_check_time) (defBody s_check_time) (defScope s_check_time) .none kV12 dc12 pm12 an12 cd12 ct12), sl12⟩) (c12 : PySem.W.codeIn K cd12 "check_time" = true) (k12 : PySem.W.keepIn K (.ref f12) = true)
    (a13 : PySem.W.nsIn K mainGlobals "folded" = some (some (.ref f13))) (l13 : K.lookup f13 = some ⟨oc13, od13, .func (PySem.W.fnOf "folded" "folded" (defArgs s_folded) (defBody s_folded) (defScope s_folded) .none kV13 dc13 pm13 an13 cd13 ct13), sl13⟩) (c13 : PySem.W.codeIn K cd13 "folded" = true) (k13 : PySem.W.keepIn K (.ref f13) = true)
    (a14 : PySem.W.nsIn K mainGlobals "check_shot" = some (some (.ref f14))) (l14 : K.lookup f14 = some ⟨oc14, od14, .func (PySem.W.fnOf "check_shot" "check_shot" (defArgs s_check_shot) (defBody s_check_shot) (defScope s_check_shot) .none kV14 dc14 pm14 an14 cd14 ct14), sl14⟩) (c14 : PySem.W.codeIn K cd14 "check_shot" = true) (k14 : PySem.W.keepIn K (.ref f14) = true)
    (a15 : PySem.W.nsIn K mainGlobals "_check_all" = some (some (.ref f15))) (l15 : K.lookup f15 = some ⟨oc15, od15, .func (PySem.W.fnOf "_check_all" "_check_all" (defArgs s__check_all) (defBody s__check_all) (defScope s__check_all) .none kV15 dc15 pm15 an15 cd15 ct15), sl15⟩) (c15 : PySem.W.codeIn K cd15 "_check_all" = true) (k15 : PySem.W.keepIn K (.ref f15) = true)
    (a16 : PySem.W.nsIn K mainGlobals "_place" = some (some (.ref f16))) (l16 : K.lookup f16 = some ⟨oc16, od16, .func (PySem.W.fnOf "_place" "_place" (defArgs s__place) (defBody s__place) (defScope s__place) .none kV16 dc16 pm16 an16 cd16 ct16), sl16⟩) (c16 : PySem.W.codeIn K cd16 "_place" = true) (k16 : PySem.W.keepIn K (.ref f16) = true)
    (a17 : PySem.W.nsIn K mainGlobals "place_at" = some (some (.ref f17))) (l17 : K.lookup f17 = some ⟨oc17, od17, .func (PySem.W.fnOf "place_at" "place_at" (defArgs s_place_at) (defBody s_place_at) (defScope s_place_at) .none kV17 dc17 pm17 an17 cd17 ct17), sl17⟩) (c17 : PySem.W.codeIn K cd17 "place_at" = true) (k17 : PySem.W.keepIn K (.ref f17) = true)
    (a18 : PySem.W.nsIn K mainGlobals "_line_way" = some (some (.ref f18))) (l18 : K.lookup f18 = some ⟨oc18, od18, .func (PySem.W.fnOf "_line_way" "_line_way" (defArgs s__line_way) (defBody s__line_way) (defScope s__line_way) .none kV18 dc18 pm18 an18 cd18 ct18), sl18⟩) (c18 : PySem.W.codeIn K cd18 "_line_way" = true) (k18 : PySem.W.keepIn K (.ref f18) = true)
    (a19 : PySem.W.nsIn K mainGlobals "_way" = some (some (.ref f19))) (l19 : K.lookup f19 = some ⟨oc19, od19, .func (PySem.W.fnOf "_way" "_way" (defArgs s__way) (defBody s__way) (defScope s__way) .none kV19 dc19 pm19 an19 cd19 ct19), sl19⟩) (c19 : PySem.W.codeIn K cd19 "_way" = true) (k19 : PySem.W.keepIn K (.ref f19) = true)
    (a20 : PySem.W.nsIn K mainGlobals "way_at" = some (some (.ref f20))) (l20 : K.lookup f20 = some ⟨oc20, od20, .func (PySem.W.fnOf "way_at" "way_at" (defArgs s_way_at) (defBody s_way_at) (defScope s_way_at) .none kV20 dc20 pm20 an20 cd20 ct20), sl20⟩) (c20 : PySem.W.codeIn K cd20 "way_at" = true) (k20 : PySem.W.keepIn K (.ref f20) = true)
    (a21 : PySem.W.nsIn K mainGlobals "shot_at" = some (some (.ref f21))) (l21 : K.lookup f21 = some ⟨oc21, od21, .func (PySem.W.fnOf "shot_at" "shot_at" (defArgs s_shot_at) (defBody s_shot_at) (defScope s_shot_at) .none kV21 dc21 pm21 an21 cd21 ct21), sl21⟩) (c21 : PySem.W.codeIn K cd21 "shot_at" = true) (k21 : PySem.W.keepIn K (.ref f21) = true)
    (a22 : PySem.W.nsIn K mainGlobals "turned" = some (some (.ref f22))) (l22 : K.lookup f22 = some ⟨oc22, od22, .func (PySem.W.fnOf "turned" "turned" (defArgs s_turned) (defBody s_turned) (defScope s_turned) .none kV22 dc22 pm22 an22 cd22 ct22), sl22⟩) (c22 : PySem.W.codeIn K cd22 "turned" = true) (k22 : PySem.W.keepIn K (.ref f22) = true)
    (a23 : PySem.W.nsIn K mainGlobals "scaled" = some (some (.ref f23))) (l23 : K.lookup f23 = some ⟨oc23, od23, .func (PySem.W.fnOf "scaled" "scaled" (defArgs s_scaled) (defBody s_scaled) (defScope s_scaled) .none kV23 dc23 pm23 an23 cd23 ct23), sl23⟩) (c23 : PySem.W.codeIn K cd23 "scaled" = true) (k23 : PySem.W.keepIn K (.ref f23) = true)
    (a24 : PySem.W.nsIn K mainGlobals "crossed" = some (some (.ref f24))) (l24 : K.lookup f24 = some ⟨oc24, od24, .func (PySem.W.fnOf "crossed" "crossed" (defArgs s_crossed) (defBody s_crossed) (defScope s_crossed) .none kV24 dc24 pm24 an24 cd24 ct24), sl24⟩) (c24 : PySem.W.codeIn K cd24 "crossed" = true) (k24 : PySem.W.keepIn K (.ref f24) = true)
    (a25 : PySem.W.nsIn K mainGlobals "_law_well" = some (some (.ref f25))) (l25 : K.lookup f25 = some ⟨oc25, od25, .func (PySem.W.fnOf "_law_well" "_law_well" (defArgs s__law_well) (defBody s__law_well) (defScope s__law_well) .none kV25 dc25 pm25 an25 cd25 ct25), sl25⟩) (c25 : PySem.W.codeIn K cd25 "_law_well" = true) (k25 : PySem.W.keepIn K (.ref f25) = true)
    (a26 : PySem.W.nsIn K mainGlobals "_law_draw" = some (some (.ref f26))) (l26 : K.lookup f26 = some ⟨oc26, od26, .func (PySem.W.fnOf "_law_draw" "_law_draw" (defArgs s__law_draw) (defBody s__law_draw) (defScope s__law_draw) .none kV26 dc26 pm26 an26 cd26 ct26), sl26⟩) (c26 : PySem.W.codeIn K cd26 "_law_draw" = true) (k26 : PySem.W.keepIn K (.ref f26) = true)
    (a27 : PySem.W.nsIn K mainGlobals "_law_desk" = some (some (.ref f27))) (l27 : K.lookup f27 = some ⟨oc27, od27, .func (PySem.W.fnOf "_law_desk" "_law_desk" (defArgs s__law_desk) (defBody s__law_desk) (defScope s__law_desk) .none kV27 dc27 pm27 an27 cd27 ct27), sl27⟩) (c27 : PySem.W.codeIn K cd27 "_law_desk" = true) (k27 : PySem.W.keepIn K (.ref f27) = true)
    (a28 : PySem.W.nsIn K mainGlobals "_law_roll" = some (some (.ref f28))) (l28 : K.lookup f28 = some ⟨oc28, od28, .func (PySem.W.fnOf "_law_roll" "_law_roll" (defArgs s__law_roll) (defBody s__law_roll) (defScope s__law_roll) .none kV28 dc28 pm28 an28 cd28 ct28), sl28⟩) (c28 : PySem.W.codeIn K cd28 "_law_roll" = true) (k28 : PySem.W.keepIn K (.ref f28) = true)
    (a29 : PySem.W.nsIn K mainGlobals "_law_called" = some (some (.ref f29))) (l29 : K.lookup f29 = some ⟨oc29, od29, .func (PySem.W.fnOf "_law_called" "_law_called" (defArgs s__law_called) (defBody s__law_called) (defScope s__law_called) .none kV29 dc29 pm29 an29 cd29 ct29), sl29⟩) (c29 : PySem.W.codeIn K cd29 "_law_called" = true) (k29 : PySem.W.keepIn K (.ref f29) = true)
    (a30 : PySem.W.nsIn K mainGlobals "_law_told" = some (some (.ref f30))) (l30 : K.lookup f30 = some ⟨oc30, od30, .func (PySem.W.fnOf "_law_told" "_law_told" (defArgs s__law_told) (defBody s__law_told) (defScope s__law_told) .none kV30 dc30 pm30 an30 cd30 ct30), sl30⟩) (c30 : PySem.W.codeIn K cd30 "_law_told" = true) (k30 : PySem.W.keepIn K (.ref f30) = true)
    (a31 : PySem.W.nsIn K mainGlobals "_law_third" = some (some (.ref f31))) (l31 : K.lookup f31 = some ⟨oc31, od31, .func (PySem.W.fnOf "_law_third" "_law_third" (defArgs s__law_third) (defBody s__law_third) (defScope s__law_third) .none kV31 dc31 pm31 an31 cd31 ct31), sl31⟩) (c31 : PySem.W.codeIn K cd31 "_law_third" = true) (k31 : PySem.W.keepIn K (.ref f31) = true)
    (a32 : PySem.W.nsIn K mainGlobals "_law_case" = some (some (.ref f32))) (l32 : K.lookup f32 = some ⟨oc32, od32, .func (PySem.W.fnOf "_law_case" "_law_case" (defArgs s__law_case) (defBody s__law_case) (defScope s__law_case) .none kV32 dc32 pm32 an32 cd32 ct32), sl32⟩) (c32 : PySem.W.codeIn K cd32 "_law_case" = true) (k32 : PySem.W.keepIn K (.ref f32) = true)
    (a33 : PySem.W.nsIn K mainGlobals "law" = some (some (.ref f33))) (l33 : K.lookup f33 = some ⟨oc33, od33, .func (PySem.W.fnOf "law" "law" (defArgs s_law) (defBody s_law) (defScope s_law) .none kV33 dc33 pm33 an33 cd33 ct33), sl33⟩) (c33 : PySem.W.codeIn K cd33 "law" = true) (k33 : PySem.W.keepIn K (.ref f33) = true)
    (z_ValueError : PySem.W.nsIn K mainGlobals "ValueError" = some none)
    (z_abs : PySem.W.nsIn K mainGlobals "abs" = some none)
    (z_all : PySem.W.nsIn K mainGlobals "all" = some none)
    (z_bool : PySem.W.nsIn K mainGlobals "bool" = some none)
    (z_gcd : PySem.W.nsIn K mainGlobals "gcd" = some (some (.builtin "math.gcd")))
    (z_int : PySem.W.nsIn K mainGlobals "int" = some none)
    (z_isinstance : PySem.W.nsIn K mainGlobals "isinstance" = some none)
    (z_len : PySem.W.nsIn K mainGlobals "len" = some none)
    (z_list : PySem.W.nsIn K mainGlobals "list" = some none)
    (z_max : PySem.W.nsIn K mainGlobals "max" = some none)
    (z_min : PySem.W.nsIn K mainGlobals "min" = some none)
    (z_range : PySem.W.nsIn K mainGlobals "range" = some none)
    (z_tuple : PySem.W.nsIn K mainGlobals "tuple" = some none)
    (x1_InvalidNumber : PySem.W.nsIn K mainGlobals "InvalidNumber" = some (some (.ref C_InvalidNumber))) (x2_InvalidNumber : PySem.W.excIn K C_InvalidNumber [.type "ValueError", .type "Exception", .type "BaseException", .type "object"] "ValueError.__new__" = true) (x3_InvalidNumber : PySem.W.keepIn K (.ref C_InvalidNumber) = true)
    (x4_InvalidNumber : PySem.W.subIn K (.ref C_InvalidNumber) (.type "BaseException") = some true) (x5_InvalidNumber : PySem.W.typeIn K (.ref C_InvalidNumber) = some (.type "type"))
    (x1_InvalidShot : PySem.W.nsIn K mainGlobals "InvalidShot" = some (some (.ref C_InvalidShot))) (x2_InvalidShot : PySem.W.excIn K C_InvalidShot [.type "ValueError", .type "Exception", .type "BaseException", .type "object"] "ValueError.__new__" = true) (x3_InvalidShot : PySem.W.keepIn K (.ref C_InvalidShot) = true)
    (x4_InvalidShot : PySem.W.subIn K (.ref C_InvalidShot) (.type "BaseException") = some true) (x5_InvalidShot : PySem.W.typeIn K (.ref C_InvalidShot) = some (.type "type"))
    (x1_InvalidSide : PySem.W.nsIn K mainGlobals "InvalidSide" = some (some (.ref C_InvalidSide))) (x2_InvalidSide : PySem.W.excIn K C_InvalidSide [.type "ValueError", .type "Exception", .type "BaseException", .type "object"] "ValueError.__new__" = true) (x3_InvalidSide : PySem.W.keepIn K (.ref C_InvalidSide) = true)
    (x4_InvalidSide : PySem.W.subIn K (.ref C_InvalidSide) (.type "BaseException") = some true) (x5_InvalidSide : PySem.W.typeIn K (.ref C_InvalidSide) = some (.type "type"))
    (x1_InvalidTable : PySem.W.nsIn K mainGlobals "InvalidTable" = some (some (.ref C_InvalidTable))) (x2_InvalidTable : PySem.W.excIn K C_InvalidTable [.type "ValueError", .type "Exception", .type "BaseException", .type "object"] "ValueError.__new__" = true) (x3_InvalidTable : PySem.W.keepIn K (.ref C_InvalidTable) = true)
    (x4_InvalidTable : PySem.W.subIn K (.ref C_InvalidTable) (.type "BaseException") = some true) (x5_InvalidTable : PySem.W.typeIn K (.ref C_InvalidTable) = some (.type "type"))
    (x1_InvalidTime : PySem.W.nsIn K mainGlobals "InvalidTime" = some (some (.ref C_InvalidTime))) (x2_InvalidTime : PySem.W.excIn K C_InvalidTime [.type "ValueError", .type "Exception", .type "BaseException", .type "object"] "ValueError.__new__" = true) (x3_InvalidTime : PySem.W.keepIn K (.ref C_InvalidTime) = true)
    (x4_InvalidTime : PySem.W.subIn K (.ref C_InvalidTime) (.type "BaseException") = some true) (x5_InvalidTime : PySem.W.typeIn K (.ref C_InvalidTime) = some (.type "type"))
    (x1_ShotError : PySem.W.nsIn K mainGlobals "ShotError" = some (some (.ref C_ShotError))) (x4_ShotError : PySem.W.subIn K (.ref C_ShotError) (.type "BaseException") = some true) (x5_ShotError : PySem.W.typeIn K (.ref C_ShotError) = some (.type "type"))
    (e4_InvalidNumber : PySem.W.hasDictIn K C_InvalidNumber = true)
    (e4_InvalidShot : PySem.W.hasDictIn K C_InvalidShot = true)
    (e4_InvalidSide : PySem.W.hasDictIn K C_InvalidSide = true)
    (e4_InvalidTable : PySem.W.hasDictIn K C_InvalidTable = true)
    (e4_InvalidTime : PySem.W.hasDictIn K C_InvalidTime = true)
    (e4_ShotError : PySem.W.hasDictIn K C_ShotError = true)
    (e1_InvalidNumber : PySem.W.findIn K (.ref C_InvalidNumber) "__getattribute__" = some (some (.builtin "BaseException.__getattribute__"))) (e2_InvalidNumber : PySem.W.findIn K (.ref C_InvalidNumber) "__getattr__" = some none) (e3_InvalidNumber : PySem.W.findIn K (.ref C_InvalidNumber) "__class__" = some (some (.builtin "object.__class__"))) (e5_InvalidNumber : PySem.W.mroIn K C_InvalidNumber (.type "object") = some true)
    (e1_InvalidShot : PySem.W.findIn K (.ref C_InvalidShot) "__getattribute__" = some (some (.builtin "BaseException.__getattribute__"))) (e2_InvalidShot : PySem.W.findIn K (.ref C_InvalidShot) "__getattr__" = some none) (e3_InvalidShot : PySem.W.findIn K (.ref C_InvalidShot) "__class__" = some (some (.builtin "object.__class__"))) (e5_InvalidShot : PySem.W.mroIn K C_InvalidShot (.type "object") = some true)
    (e1_InvalidSide : PySem.W.findIn K (.ref C_InvalidSide) "__getattribute__" = some (some (.builtin "BaseException.__getattribute__"))) (e2_InvalidSide : PySem.W.findIn K (.ref C_InvalidSide) "__getattr__" = some none) (e3_InvalidSide : PySem.W.findIn K (.ref C_InvalidSide) "__class__" = some (some (.builtin "object.__class__"))) (e5_InvalidSide : PySem.W.mroIn K C_InvalidSide (.type "object") = some true)
    (e1_InvalidTable : PySem.W.findIn K (.ref C_InvalidTable) "__getattribute__" = some (some (.builtin "BaseException.__getattribute__"))) (e2_InvalidTable : PySem.W.findIn K (.ref C_InvalidTable) "__getattr__" = some none) (e3_InvalidTable : PySem.W.findIn K (.ref C_InvalidTable) "__class__" = some (some (.builtin "object.__class__"))) (e5_InvalidTable : PySem.W.mroIn K C_InvalidTable (.type "object") = some true)
    (e1_InvalidTime : PySem.W.findIn K (.ref C_InvalidTime) "__getattribute__" = some (some (.builtin "BaseException.__getattribute__"))) (e2_InvalidTime : PySem.W.findIn K (.ref C_InvalidTime) "__getattr__" = some none) (e3_InvalidTime : PySem.W.findIn K (.ref C_InvalidTime) "__class__" = some (some (.builtin "object.__class__"))) (e5_InvalidTime : PySem.W.mroIn K C_InvalidTime (.type "object") = some true)
    (hn_ : PySem.W.specialIn K (.builtin "object.__class__") "__get__" = some (some (.builtin "getset_descriptor.__get__"))) (ht_ : PySem.W.takesIn K (.builtin "object.__class__") = some true)
    (kt_InvalidNumber_InvalidNumber : PySem.W.kitOne K (.ref C_InvalidNumber) (.ref C_InvalidNumber) = some true)
    (kt_InvalidNumber_InvalidShot : PySem.W.kitOne K (.ref C_InvalidShot) (.ref C_InvalidNumber) = some false)
    (kt_InvalidNumber_InvalidSide : PySem.W.kitOne K (.ref C_InvalidSide) (.ref C_InvalidNumber) = some false)
    (kt_InvalidNumber_InvalidTable : PySem.W.kitOne K (.ref C_InvalidTable) (.ref C_InvalidNumber) = some false)
    (kt_InvalidNumber_InvalidTime : PySem.W.kitOne K (.ref C_InvalidTime) (.ref C_InvalidNumber) = some false)
    (kt_InvalidShot_InvalidNumber : PySem.W.kitOne K (.ref C_InvalidNumber) (.ref C_InvalidShot) = some false)
    (kt_InvalidShot_InvalidShot : PySem.W.kitOne K (.ref C_InvalidShot) (.ref C_InvalidShot) = some true)
    (kt_InvalidShot_InvalidSide : PySem.W.kitOne K (.ref C_InvalidSide) (.ref C_InvalidShot) = some false)
    (kt_InvalidShot_InvalidTable : PySem.W.kitOne K (.ref C_InvalidTable) (.ref C_InvalidShot) = some false)
    (kt_InvalidShot_InvalidTime : PySem.W.kitOne K (.ref C_InvalidTime) (.ref C_InvalidShot) = some false)
    (kt_InvalidSide_InvalidNumber : PySem.W.kitOne K (.ref C_InvalidNumber) (.ref C_InvalidSide) = some false)
    (kt_InvalidSide_InvalidShot : PySem.W.kitOne K (.ref C_InvalidShot) (.ref C_InvalidSide) = some false)
    (kt_InvalidSide_InvalidSide : PySem.W.kitOne K (.ref C_InvalidSide) (.ref C_InvalidSide) = some true)
    (kt_InvalidSide_InvalidTable : PySem.W.kitOne K (.ref C_InvalidTable) (.ref C_InvalidSide) = some false)
    (kt_InvalidSide_InvalidTime : PySem.W.kitOne K (.ref C_InvalidTime) (.ref C_InvalidSide) = some false)
    (kt_InvalidTable_InvalidNumber : PySem.W.kitOne K (.ref C_InvalidNumber) (.ref C_InvalidTable) = some false)
    (kt_InvalidTable_InvalidShot : PySem.W.kitOne K (.ref C_InvalidShot) (.ref C_InvalidTable) = some false)
    (kt_InvalidTable_InvalidSide : PySem.W.kitOne K (.ref C_InvalidSide) (.ref C_InvalidTable) = some false)
    (kt_InvalidTable_InvalidTable : PySem.W.kitOne K (.ref C_InvalidTable) (.ref C_InvalidTable) = some true)
    (kt_InvalidTable_InvalidTime : PySem.W.kitOne K (.ref C_InvalidTime) (.ref C_InvalidTable) = some false)
    (kt_InvalidTime_InvalidNumber : PySem.W.kitOne K (.ref C_InvalidNumber) (.ref C_InvalidTime) = some false)
    (kt_InvalidTime_InvalidShot : PySem.W.kitOne K (.ref C_InvalidShot) (.ref C_InvalidTime) = some false)
    (kt_InvalidTime_InvalidSide : PySem.W.kitOne K (.ref C_InvalidSide) (.ref C_InvalidTime) = some false)
    (kt_InvalidTime_InvalidTable : PySem.W.kitOne K (.ref C_InvalidTable) (.ref C_InvalidTime) = some false)
    (kt_InvalidTime_InvalidTime : PySem.W.kitOne K (.ref C_InvalidTime) (.ref C_InvalidTime) = some true)
    (kt_ValueError_InvalidNumber : PySem.W.kitOne K (.ref C_InvalidNumber) (.type "ValueError") = some true)
    (kt_ValueError_InvalidShot : PySem.W.kitOne K (.ref C_InvalidShot) (.type "ValueError") = some true)
    (kt_ValueError_InvalidSide : PySem.W.kitOne K (.ref C_InvalidSide) (.type "ValueError") = some true)
    (kt_ValueError_InvalidTable : PySem.W.kitOne K (.ref C_InvalidTable) (.type "ValueError") = some true)
    (kt_ValueError_InvalidTime : PySem.W.kitOne K (.ref C_InvalidTime) (.type "ValueError") = some true)
    (hh_ShotError_InvalidNumber : PySem.W.subIn K (.ref C_InvalidNumber) (.ref C_ShotError) = some true)
    (hh_ShotError_InvalidShot : PySem.W.subIn K (.ref C_InvalidShot) (.ref C_ShotError) = some true)
    (hh_ShotError_InvalidSide : PySem.W.subIn K (.ref C_InvalidSide) (.ref C_ShotError) = some true)
    (hh_ShotError_InvalidTable : PySem.W.subIn K (.ref C_InvalidTable) (.ref C_ShotError) = some true)
    (hh_ShotError_InvalidTime : PySem.W.subIn K (.ref C_InvalidTime) (.ref C_ShotError) = some true)
    : ∃ fd : FuncData, (∀ (s : Shared) (u : Value), BindsTo s fd ⟨[u], []⟩ [("script", u)]) ∧ ∀ base : Heap, K.In base → base.Ns mainGlobals mg → FnG l.prog w K mg base 11 fa fd ["script"] (spL K) := by
  have e := hfa.symm.trans (PySem.W.mg_of X G0 a33)
  cases e
  let CN : String → Option Addr := fun s => if s = "InvalidNumber" then some C_InvalidNumber else if s = "InvalidShot" then some C_InvalidShot else if s = "InvalidSide" then some C_InvalidSide else if s = "InvalidTable" then some C_InvalidTable else if s = "InvalidTime" then some C_InvalidTime else none
  have cnx : ∀ {p : String → Addr → Prop}, p "InvalidNumber" C_InvalidNumber → p "InvalidShot" C_InvalidShot → p "InvalidSide" C_InvalidSide → p "InvalidTable" C_InvalidTable → p "InvalidTime" C_InvalidTime → ∀ c A, CN c = some A → p c A := by
    intro p p_InvalidNumber p_InvalidShot p_InvalidSide p_InvalidTable p_InvalidTime c A h
    have h : (if c = "InvalidNumber" then some C_InvalidNumber else if c = "InvalidShot" then some C_InvalidShot else if c = "InvalidSide" then some C_InvalidSide else if c = "InvalidTable" then some C_InvalidTable else if c = "InvalidTime" then some C_InvalidTime else none) = some A := h
    by_cases q_InvalidNumber : c = "InvalidNumber"
    · subst q_InvalidNumber; simp only [if_true, String.reduceEq, if_false] at h; cases h; exact p_InvalidNumber
    rw [if_neg q_InvalidNumber] at h
    by_cases q_InvalidShot : c = "InvalidShot"
    · subst q_InvalidShot; simp only [if_true, String.reduceEq, if_false] at h; cases h; exact p_InvalidShot
    rw [if_neg q_InvalidShot] at h
    by_cases q_InvalidSide : c = "InvalidSide"
    · subst q_InvalidSide; simp only [if_true, String.reduceEq, if_false] at h; cases h; exact p_InvalidSide
    rw [if_neg q_InvalidSide] at h
    by_cases q_InvalidTable : c = "InvalidTable"
    · subst q_InvalidTable; simp only [if_true, String.reduceEq, if_false] at h; cases h; exact p_InvalidTable
    rw [if_neg q_InvalidTable] at h
    by_cases q_InvalidTime : c = "InvalidTime"
    · subst q_InvalidTime; simp only [if_true, String.reduceEq, if_false] at h; cases h; exact p_InvalidTime
    rw [if_neg q_InvalidTime] at h
    cases h
  have g : G K mg CN := {
    ec := cnx (p := fun _ A => ExcC K A) ⟨e1_InvalidNumber, e2_InvalidNumber, x4_InvalidNumber, e4_InvalidNumber, e3_InvalidNumber, hn_, ht_, e5_InvalidNumber⟩ ⟨e1_InvalidShot, e2_InvalidShot, x4_InvalidShot, e4_InvalidShot, e3_InvalidShot, hn_, ht_, e5_InvalidShot⟩ ⟨e1_InvalidSide, e2_InvalidSide, x4_InvalidSide, e4_InvalidSide, e3_InvalidSide, hn_, ht_, e5_InvalidSide⟩ ⟨e1_InvalidTable, e2_InvalidTable, x4_InvalidTable, e4_InvalidTable, e3_InvalidTable, hn_, ht_, e5_InvalidTable⟩ ⟨e1_InvalidTime, e2_InvalidTime, x4_InvalidTime, e4_InvalidTime, e3_InvalidTime, hn_, ht_, e5_InvalidTime⟩,
    kt_InvalidNumber := ⟨C_InvalidNumber, PySem.W.mg_of X G0 x1_InvalidNumber, cnx (p := fun c A => PySem.W.kitOne K (.ref A) (.ref C_InvalidNumber) = some (isSub c "InvalidNumber")) (by rw [show isSub "InvalidNumber" "InvalidNumber" = true by decide +kernel]; exact kt_InvalidNumber_InvalidNumber) (by rw [show isSub "InvalidShot" "InvalidNumber" = false by decide +kernel]; exact kt_InvalidNumber_InvalidShot) (by rw [show isSub "InvalidSide" "InvalidNumber" = false by decide +kernel]; exact kt_InvalidNumber_InvalidSide) (by rw [show isSub "InvalidTable" "InvalidNumber" = false by decide +kernel]; exact kt_InvalidNumber_InvalidTable) (by rw [show isSub "InvalidTime" "InvalidNumber" = false by decide +kernel]; exact kt_InvalidNumber_InvalidTime)⟩,
    kt_InvalidShot := ⟨C_InvalidShot, PySem.W.mg_of X G0 x1_InvalidShot, cnx (p := fun c A => PySem.W.kitOne K (.ref A) (.ref C_InvalidShot) = some (isSub c "InvalidShot")) (by rw [show isSub "InvalidNumber" "InvalidShot" = false by decide +kernel]; exact kt_InvalidShot_InvalidNumber) (by rw [show isSub "InvalidShot" "InvalidShot" = true by decide +kernel]; exact kt_InvalidShot_InvalidShot) (by rw [show isSub "InvalidSide" "InvalidShot" = false by decide +kernel]; exact kt_InvalidShot_InvalidSide) (by rw [show isSub "InvalidTable" "InvalidShot" = false by decide +kernel]; exact kt_InvalidShot_InvalidTable) (by rw [show isSub "InvalidTime" "InvalidShot" = false by decide +kernel]; exact kt_InvalidShot_InvalidTime)⟩,
    kt_InvalidSide := ⟨C_InvalidSide, PySem.W.mg_of X G0 x1_InvalidSide, cnx (p := fun c A => PySem.W.kitOne K (.ref A) (.ref C_InvalidSide) = some (isSub c "InvalidSide")) (by rw [show isSub "InvalidNumber" "InvalidSide" = false by decide +kernel]; exact kt_InvalidSide_InvalidNumber) (by rw [show isSub "InvalidShot" "InvalidSide" = false by decide +kernel]; exact kt_InvalidSide_InvalidShot) (by rw [show isSub "InvalidSide" "InvalidSide" = true by decide +kernel]; exact kt_InvalidSide_InvalidSide) (by rw [show isSub "InvalidTable" "InvalidSide" = false by decide +kernel]; exact kt_InvalidSide_InvalidTable) (by rw [show isSub "InvalidTime" "InvalidSide" = false by decide +kernel]; exact kt_InvalidSide_InvalidTime)⟩,
    kt_InvalidTable := ⟨C_InvalidTable, PySem.W.mg_of X G0 x1_InvalidTable, cnx (p := fun c A => PySem.W.kitOne K (.ref A) (.ref C_InvalidTable) = some (isSub c "InvalidTable")) (by rw [show isSub "InvalidNumber" "InvalidTable" = false by decide +kernel]; exact kt_InvalidTable_InvalidNumber) (by rw [show isSub "InvalidShot" "InvalidTable" = false by decide +kernel]; exact kt_InvalidTable_InvalidShot) (by rw [show isSub "InvalidSide" "InvalidTable" = false by decide +kernel]; exact kt_InvalidTable_InvalidSide) (by rw [show isSub "InvalidTable" "InvalidTable" = true by decide +kernel]; exact kt_InvalidTable_InvalidTable) (by rw [show isSub "InvalidTime" "InvalidTable" = false by decide +kernel]; exact kt_InvalidTable_InvalidTime)⟩,
    kt_InvalidTime := ⟨C_InvalidTime, PySem.W.mg_of X G0 x1_InvalidTime, cnx (p := fun c A => PySem.W.kitOne K (.ref A) (.ref C_InvalidTime) = some (isSub c "InvalidTime")) (by rw [show isSub "InvalidNumber" "InvalidTime" = false by decide +kernel]; exact kt_InvalidTime_InvalidNumber) (by rw [show isSub "InvalidShot" "InvalidTime" = false by decide +kernel]; exact kt_InvalidTime_InvalidShot) (by rw [show isSub "InvalidSide" "InvalidTime" = false by decide +kernel]; exact kt_InvalidTime_InvalidSide) (by rw [show isSub "InvalidTable" "InvalidTime" = false by decide +kernel]; exact kt_InvalidTime_InvalidTable) (by rw [show isSub "InvalidTime" "InvalidTime" = true by decide +kernel]; exact kt_InvalidTime_InvalidTime)⟩,
    kb_ValueError := cnx (p := fun c A => PySem.W.kitOne K (.ref A) (.type "ValueError") = some (isSub c "ValueError")) (by rw [show isSub "InvalidNumber" "ValueError" = true by decide +kernel]; exact kt_ValueError_InvalidNumber) (by rw [show isSub "InvalidShot" "ValueError" = true by decide +kernel]; exact kt_ValueError_InvalidShot) (by rw [show isSub "InvalidSide" "ValueError" = true by decide +kernel]; exact kt_ValueError_InvalidSide) (by rw [show isSub "InvalidTable" "ValueError" = true by decide +kernel]; exact kt_ValueError_InvalidTable) (by rw [show isSub "InvalidTime" "ValueError" = true by decide +kernel]; exact kt_ValueError_InvalidTime),
    h_ShotError := ⟨_, PySem.W.mg_of X G0 x1_ShotError, cnx (p := fun c A => PySem.W.exmOne K (.ref A) (.ref C_ShotError) = some (isSub c "ShotError")) (by rw [show isSub "InvalidNumber" "ShotError" = true by decide +kernel]; exact PySem.W.exm_ref x4_ShotError e4_ShotError x5_ShotError hh_ShotError_InvalidNumber) (by rw [show isSub "InvalidShot" "ShotError" = true by decide +kernel]; exact PySem.W.exm_ref x4_ShotError e4_ShotError x5_ShotError hh_ShotError_InvalidShot) (by rw [show isSub "InvalidSide" "ShotError" = true by decide +kernel]; exact PySem.W.exm_ref x4_ShotError e4_ShotError x5_ShotError hh_ShotError_InvalidSide) (by rw [show isSub "InvalidTable" "ShotError" = true by decide +kernel]; exact PySem.W.exm_ref x4_ShotError e4_ShotError x5_ShotError hh_ShotError_InvalidTable) (by rw [show isSub "InvalidTime" "ShotError" = true by decide +kernel]; exact PySem.W.exm_ref x4_ShotError e4_ShotError x5_ShotError hh_ShotError_InvalidTime)⟩,
    b_ValueError := PySem.W.mg_none_of X G0 z_ValueError,
    b_abs := PySem.W.mg_none_of X G0 z_abs,
    b_all := PySem.W.mg_none_of X G0 z_all,
    b_bool := PySem.W.mg_none_of X G0 z_bool,
    b_gcd := PySem.W.mg_of X G0 z_gcd,
    b_int := PySem.W.mg_none_of X G0 z_int,
    b_isinstance := PySem.W.mg_none_of X G0 z_isinstance,
    b_len := PySem.W.mg_none_of X G0 z_len,
    b_list := PySem.W.mg_none_of X G0 z_list,
    b_max := PySem.W.mg_none_of X G0 z_max,
    b_min := PySem.W.mg_none_of X G0 z_min,
    b_range := PySem.W.mg_none_of X G0 z_range,
    b_tuple := PySem.W.mg_none_of X G0 z_tuple,
    x_InvalidNumber := ⟨C_InvalidNumber, by simp [CN], ⟨PySem.W.mg_of X G0 x1_InvalidNumber, x2_InvalidNumber, x3_InvalidNumber, x4_InvalidNumber, x5_InvalidNumber⟩⟩,
    x_InvalidShot := ⟨C_InvalidShot, by simp [CN], ⟨PySem.W.mg_of X G0 x1_InvalidShot, x2_InvalidShot, x3_InvalidShot, x4_InvalidShot, x5_InvalidShot⟩⟩,
    x_InvalidSide := ⟨C_InvalidSide, by simp [CN], ⟨PySem.W.mg_of X G0 x1_InvalidSide, x2_InvalidSide, x3_InvalidSide, x4_InvalidSide, x5_InvalidSide⟩⟩,
    x_InvalidTable := ⟨C_InvalidTable, by simp [CN], ⟨PySem.W.mg_of X G0 x1_InvalidTable, x2_InvalidTable, x3_InvalidTable, x4_InvalidTable, x5_InvalidTable⟩⟩,
    x_InvalidTime := ⟨C_InvalidTime, by simp [CN], ⟨PySem.W.mg_of X G0 x1_InvalidTime, x2_InvalidTime, x3_InvalidTime, x4_InvalidTime, x5_InvalidTime⟩⟩ }
  have F1 := fun_mk (st := s_is_whole) l1 c1 k1
  have b1 := F1.binds (ps := ["value"]) fun _ _ _ _ _ _ us hl => match us, hl with | [_], _ => rfl
  have F2 := fun_mk (st := s_are_whole) l2 c2 k2
  have b2 := F2.binds (ps := ["value", "many"]) fun _ _ _ _ _ _ us hl => match us, hl with | [_, _], _ => rfl
  have F3 := fun_mk (st := s_fraction_of) l3 c3 k3
  have b3 := F3.binds (ps := ["top", "bottom"]) fun _ _ _ _ _ _ us hl => match us, hl with | [_, _], _ => rfl
  have F4 := fun_mk (st := s__line_of) l4 c4 k4
  have b4 := F4.binds (ps := ["side", "start", "speed"]) fun _ _ _ _ _ _ us hl => match us, hl with | [_, _, _], _ => rfl
  have F5 := fun_mk (st := s_lines_of) l5 c5 k5
  have b5 := F5.binds (ps := ["table", "shot"]) fun _ _ _ _ _ _ us hl => match us, hl with | [_, _], _ => rfl
  have F6 := fun_mk (st := s_is_table) l6 c6 k6
  have b6 := F6.binds (ps := ["value"]) fun _ _ _ _ _ _ us hl => match us, hl with | [_], _ => rfl
  have F7 := fun_mk (st := s_check_table) l7 c7 k7
  have b7 := F7.binds (ps := ["table"]) fun _ _ _ _ _ _ us hl => match us, hl with | [_], _ => rfl
  have F8 := fun_mk (st := s_is_any_shot) l8 c8 k8
  have b8 := F8.binds (ps := ["value"]) fun _ _ _ _ _ _ us hl => match us, hl with | [_], _ => rfl
  have F9 := fun_mk (st := s_is_shot) l9 c9 k9
  have b9 := F9.binds (ps := ["table", "value"]) fun _ _ _ _ _ _ us hl => match us, hl with | [_, _], _ => rfl
  have F10 := fun_mk (st := s_is_fraction) l10 c10 k10
  have b10 := F10.binds (ps := ["value"]) fun _ _ _ _ _ _ us hl => match us, hl with | [_], _ => rfl
  have F11 := fun_mk (st := s__fold) l11 c11 k11
  have b11 := F11.binds (ps := ["side", "number"]) fun _ _ _ _ _ _ us hl => match us, hl with | [_, _], _ => rfl
  have F12 := fun_mk (st := s_check_time) l12 c12 k12
  have b12 := F12.binds (ps := ["time"]) fun _ _ _ _ _ _ us hl => match us, hl with | [_], _ => rfl
  have F13 := fun_mk (st := s_folded) l13 c13 k13
  have b13 := F13.binds (ps := ["side", "number"]) fun _ _ _ _ _ _ us hl => match us, hl with | [_, _], _ => rfl
  have F14 := fun_mk (st := s_check_shot) l14 c14 k14
  have b14 := F14.binds (ps := ["table", "shot"]) fun _ _ _ _ _ _ us hl => match us, hl with | [_, _], _ => rfl
  have F15 := fun_mk (st := s__check_all) l15 c15 k15
  have b15 := F15.binds (ps := ["table", "shot", "time"]) fun _ _ _ _ _ _ us hl => match us, hl with | [_, _, _], _ => rfl
  have F16 := fun_mk (st := s__place) l16 c16 k16
  have b16 := F16.binds (ps := ["table", "shot", "time"]) fun _ _ _ _ _ _ us hl => match us, hl with | [_, _, _], _ => rfl
  have F17 := fun_mk (st := s_place_at) l17 c17 k17
  have b17 := F17.binds (ps := ["table", "shot", "time"]) fun _ _ _ _ _ _ us hl => match us, hl with | [_, _, _], _ => rfl
  have F18 := fun_mk (st := s__line_way) l18 c18 k18
  have b18 := F18.binds (ps := ["line", "time"]) fun _ _ _ _ _ _ us hl => match us, hl with | [_, _], _ => rfl
  have F19 := fun_mk (st := s__way) l19 c19 k19
  have b19 := F19.binds (ps := ["table", "shot", "time"]) fun _ _ _ _ _ _ us hl => match us, hl with | [_, _, _], _ => rfl
  have F20 := fun_mk (st := s_way_at) l20 c20 k20
  have b20 := F20.binds (ps := ["table", "shot", "time"]) fun _ _ _ _ _ _ us hl => match us, hl with | [_, _, _], _ => rfl
  have F21 := fun_mk (st := s_shot_at) l21 c21 k21
  have b21 := F21.binds (ps := ["table", "shot", "time"]) fun _ _ _ _ _ _ us hl => match us, hl with | [_, _, _], _ => rfl
  have F22 := fun_mk (st := s_turned) l22 c22 k22
  have b22 := F22.binds (ps := ["shot"]) fun _ _ _ _ _ _ us hl => match us, hl with | [_], _ => rfl
  have F23 := fun_mk (st := s_scaled) l23 c23 k23
  have b23 := F23.binds (ps := ["table", "shot", "many"]) fun _ _ _ _ _ _ us hl => match us, hl with | [_, _, _], _ => rfl
  have F24 := fun_mk (st := s_crossed) l24 c24 k24
  have b24 := F24.binds (ps := ["table", "shot"]) fun _ _ _ _ _ _ us hl => match us, hl with | [_, _], _ => rfl
  have F25 := fun_mk (st := s__law_well) l25 c25 k25
  have b25 := F25.binds (ps := ["script", "at"]) fun _ _ _ _ _ _ us hl => match us, hl with | [_, _], _ => rfl
  have F26 := fun_mk (st := s__law_draw) l26 c26 k26
  have b26 := F26.binds (ps := ["well", "most"]) fun _ _ _ _ _ _ us hl => match us, hl with | [_, _], _ => rfl
  have F27 := fun_mk (st := s__law_desk) l27 c27 k27
  have b27 := F27.binds (ps := ["well", "most"]) fun _ _ _ _ _ _ us hl => match us, hl with | [_, _], _ => rfl
  have F28 := fun_mk (st := s__law_roll) l28 c28 k28
  have b28 := F28.binds (ps := ["well", "desk", "most"]) fun _ _ _ _ _ _ us hl => match us, hl with | [_, _, _], _ => rfl
  have F29 := fun_mk (st := s__law_called) l29 c29 k29
  have b29 := F29.binds (ps := ["way", "a", "b", "c"]) fun _ _ _ _ _ _ us hl => match us, hl with | [_, _, _, _], _ => rfl
  have F30 := fun_mk (st := s__law_told) l30 c30 k30
  have b30 := F30.binds (ps := ["way", "a", "b", "c"]) fun _ _ _ _ _ _ us hl => match us, hl with | [_, _, _, _], _ => rfl
  have F31 := fun_mk (st := s__law_third) l31 c31 k31
  have b31 := F31.binds (ps := ["well", "way"]) fun _ _ _ _ _ _ us hl => match us, hl with | [_, _], _ => rfl
  have F32 := fun_mk (st := s__law_case) l32 c32 k32
  have b32 := F32.binds (ps := ["well", "way"]) fun _ _ _ _ _ _ us hl => match us, hl with | [_, _], _ => rfl
  have F33 := fun_mk (st := s_law) l33 c33 k33
  refine ⟨PySem.W.fnOf "law" "law" (defArgs s_law) (defBody s_law) (defScope s_law) .none kV33 dc33 pm33 an33 cd33 ct33, fun s v => .of_eq rfl, fun base _ _ => ?_⟩
  have o_is_whole := ok_is_whole F1 g (P := l.prog) (w := w) (base := base)
  have c_is_whole : CalP l.prog w K mg base CN 1 "is_whole" D_is_whole := ⟨_, _, _, o_is_whole, PySem.W.mg_of X G0 a1, k1, b1⟩
  have o_are_whole := ok_are_whole F2 g c_is_whole (P := l.prog) (w := w) (base := base)
  have c_are_whole : CalP l.prog w K mg base CN 2 "are_whole" D_are_whole := ⟨_, _, _, o_are_whole, PySem.W.mg_of X G0 a2, k2, b2⟩
  have o_fraction_of := ok_fraction_of F3 g (P := l.prog) (w := w) (base := base)
  have c_fraction_of : CalP l.prog w K mg base CN 1 "fraction_of" D_fraction_of := ⟨_, _, _, o_fraction_of, PySem.W.mg_of X G0 a3, k3, b3⟩
  have o__line_of := ok__line_of F4 g (P := l.prog) (w := w) (base := base)
  have c__line_of : CalP l.prog w K mg base CN 1 "_line_of" D__line_of := ⟨_, _, _, o__line_of, PySem.W.mg_of X G0 a4, k4, b4⟩
  have o_lines_of := ok_lines_of F5 g c__line_of (P := l.prog) (w := w) (base := base)
  have c_lines_of : CalP l.prog w K mg base CN 2 "lines_of" D_lines_of := ⟨_, _, _, o_lines_of, PySem.W.mg_of X G0 a5, k5, b5⟩
  have o_is_table := ok_is_table F6 g c_are_whole (P := l.prog) (w := w) (base := base)
  have c_is_table : CalP l.prog w K mg base CN 3 "is_table" D_is_table := ⟨_, _, _, o_is_table, PySem.W.mg_of X G0 a6, k6, b6⟩
  have o_check_table := ok_check_table F7 g c_is_table (P := l.prog) (w := w) (base := base)
  have c_check_table : CalP l.prog w K mg base CN 4 "check_table" D_check_table := ⟨_, _, _, o_check_table, PySem.W.mg_of X G0 a7, k7, b7⟩
  have o_is_any_shot := ok_is_any_shot F8 g c_are_whole (P := l.prog) (w := w) (base := base)
  have c_is_any_shot : CalP l.prog w K mg base CN 3 "is_any_shot" D_is_any_shot := ⟨_, _, _, o_is_any_shot, PySem.W.mg_of X G0 a8, k8, b8⟩
  have o_is_shot := ok_is_shot F9 g c_check_table c_is_any_shot (P := l.prog) (w := w) (base := base)
  have c_is_shot : CalP l.prog w K mg base CN 5 "is_shot" D_is_shot := ⟨_, _, _, o_is_shot, PySem.W.mg_of X G0 a9, k9, b9⟩
  have o_is_fraction := ok_is_fraction F10 g c_are_whole (P := l.prog) (w := w) (base := base)
  have c_is_fraction : CalP l.prog w K mg base CN 3 "is_fraction" D_is_fraction := ⟨_, _, _, o_is_fraction, PySem.W.mg_of X G0 a10, k10, b10⟩
  have o__fold := ok__fold F11 g (P := l.prog) (w := w) (base := base)
  have c__fold : CalP l.prog w K mg base CN 1 "_fold" D__fold := ⟨_, _, _, o__fold, PySem.W.mg_of X G0 a11, k11, b11⟩
  have o_check_time := ok_check_time F12 g c_is_fraction (P := l.prog) (w := w) (base := base)
  have c_check_time : CalP l.prog w K mg base CN 4 "check_time" D_check_time := ⟨_, _, _, o_check_time, PySem.W.mg_of X G0 a12, k12, b12⟩
  have o_folded := ok_folded F13 g c__fold c_check_time c_is_whole (P := l.prog) (w := w) (base := base)
  have c_folded : CalP l.prog w K mg base CN 5 "folded" D_folded := ⟨_, _, _, o_folded, PySem.W.mg_of X G0 a13, k13, b13⟩
  have o_check_shot := ok_check_shot F14 g c_is_shot (P := l.prog) (w := w) (base := base)
  have c_check_shot : CalP l.prog w K mg base CN 6 "check_shot" D_check_shot := ⟨_, _, _, o_check_shot, PySem.W.mg_of X G0 a14, k14, b14⟩
  have o__check_all := ok__check_all F15 g c_check_shot c_check_time (P := l.prog) (w := w) (base := base)
  have c__check_all : CalP l.prog w K mg base CN 7 "_check_all" D__check_all := ⟨_, _, _, o__check_all, PySem.W.mg_of X G0 a15, k15, b15⟩
  have o__place := ok__place F16 g c__fold c_fraction_of c_lines_of (P := l.prog) (w := w) (base := base)
  have c__place : CalP l.prog w K mg base CN 3 "_place" D__place := ⟨_, _, _, o__place, PySem.W.mg_of X G0 a16, k16, b16⟩
  have o_place_at := ok_place_at F17 g c__check_all c__place (P := l.prog) (w := w) (base := base)
  have c_place_at : CalP l.prog w K mg base CN 8 "place_at" D_place_at := ⟨_, _, _, o_place_at, PySem.W.mg_of X G0 a17, k17, b17⟩
  have o__line_way := ok__line_way F18 g (P := l.prog) (w := w) (base := base)
  have c__line_way : CalP l.prog w K mg base CN 1 "_line_way" D__line_way := ⟨_, _, _, o__line_way, PySem.W.mg_of X G0 a18, k18, b18⟩
  have o__way := ok__way F19 g c__line_way c_lines_of (P := l.prog) (w := w) (base := base)
  have c__way : CalP l.prog w K mg base CN 3 "_way" D__way := ⟨_, _, _, o__way, PySem.W.mg_of X G0 a19, k19, b19⟩
  have o_way_at := ok_way_at F20 g c__check_all c__way (P := l.prog) (w := w) (base := base)
  have c_way_at : CalP l.prog w K mg base CN 8 "way_at" D_way_at := ⟨_, _, _, o_way_at, PySem.W.mg_of X G0 a20, k20, b20⟩
  have kc_way_at_0_time_shot_table : CalK l.prog w K mg base CN 8 "way_at" D_way_at ["time", "shot", "table"] (gSel 0 3 [.k 2, .k 1, .k 0]) := ⟨⟨_, _, _, o_way_at, PySem.W.mg_of X G0 a20, k20, kbinds_of (by decide) fun s us ws h1 h2 => match us, ws, h1, h2 with | [], [_, _, _], _, _ => .of_eq rfl⟩, ord_sel _ _ _⟩
  have o_shot_at := ok_shot_at F21 g c__check_all c__place c__way (P := l.prog) (w := w) (base := base)
  have c_shot_at : CalP l.prog w K mg base CN 8 "shot_at" D_shot_at := ⟨_, _, _, o_shot_at, PySem.W.mg_of X G0 a21, k21, b21⟩
  have o_turned := ok_turned F22 g c_is_any_shot (P := l.prog) (w := w) (base := base)
  have c_turned : CalP l.prog w K mg base CN 4 "turned" D_turned := ⟨_, _, _, o_turned, PySem.W.mg_of X G0 a22, k22, b22⟩
  have o_scaled := ok_scaled F23 g c_check_shot c_is_whole (P := l.prog) (w := w) (base := base)
  have c_scaled : CalP l.prog w K mg base CN 7 "scaled" D_scaled := ⟨_, _, _, o_scaled, PySem.W.mg_of X G0 a23, k23, b23⟩
  have kc_scaled_2_many : CalK l.prog w K mg base CN 7 "scaled" D_scaled ["many"] (gSel 2 1 [.p 0, .p 1, .k 0]) := ⟨⟨_, _, _, o_scaled, PySem.W.mg_of X G0 a23, k23, kbinds_of (by decide) fun s us ws h1 h2 => match us, ws, h1, h2 with | [_, _], [_], _, _ => .of_eq rfl⟩, ord_sel _ _ _⟩
  have o_crossed := ok_crossed F24 g c_check_shot (P := l.prog) (w := w) (base := base)
  have c_crossed : CalP l.prog w K mg base CN 7 "crossed" D_crossed := ⟨_, _, _, o_crossed, PySem.W.mg_of X G0 a24, k24, b24⟩
  have kc_crossed_0_shot_table : CalK l.prog w K mg base CN 7 "crossed" D_crossed ["shot", "table"] (gSel 0 2 [.k 1, .k 0]) := ⟨⟨_, _, _, o_crossed, PySem.W.mg_of X G0 a24, k24, kbinds_of (by decide) fun s us ws h1 h2 => match us, ws, h1, h2 with | [], [_, _], _, _ => .of_eq rfl⟩, ord_sel _ _ _⟩
  have o__law_well := ok_well F25 g.b_int g.b_len g.b_max g.b_abs (P := l.prog) (w := w) (mg := mg) (base := base)
  have c__law_well : CalL l.prog w K mg base 1 "_law_well" := ⟨_, _, _, o__law_well, PySem.W.mg_of X G0 a25, k25, b25⟩
  have o__law_draw := ok_draw F26 g.b_int (P := l.prog) (w := w) (mg := mg) (base := base)
  have c__law_draw : CalW l.prog w K mg base 1 "_law_draw" dDraw := ⟨_, _, _, o__law_draw, PySem.W.mg_of X G0 a26, k26, b26⟩
  have o__law_desk := ok__law_desk F27 g c__law_draw (P := l.prog) (w := w) (base := base)
  have c__law_desk : CalW l.prog w K mg base 2 "_law_desk" D__law_desk := ⟨_, _, _, o__law_desk, PySem.W.mg_of X G0 a27, k27, b27⟩
  have o__law_roll := ok__law_roll F28 g c__law_draw (P := l.prog) (w := w) (base := base)
  have c__law_roll : CalW l.prog w K mg base 2 "_law_roll" D__law_roll := ⟨_, _, _, o__law_roll, PySem.W.mg_of X G0 a28, k28, b28⟩
  have o__law_called := ok__law_called F29 g c_folded c_is_shot c_place_at c_shot_at c_turned kc_way_at_0_time_shot_table kc_scaled_2_many kc_crossed_0_shot_table (P := l.prog) (w := w) (base := base)
  have c__law_called : CalP l.prog w K mg base CN 9 "_law_called" D__law_called := ⟨_, _, _, o__law_called, PySem.W.mg_of X G0 a29, k29, b29⟩
  have o__law_told := ok__law_told F30 g c__law_called (P := l.prog) (w := w) (base := base)
  have c__law_told : CalP l.prog w K mg base CN 10 "_law_told" D__law_told := ⟨_, _, _, o__law_told, PySem.W.mg_of X G0 a30, k30, b30⟩
  have o__law_third := ok__law_third F31 g c__law_draw (P := l.prog) (w := w) (base := base)
  have c__law_third : CalW l.prog w K mg base 2 "_law_third" D__law_third := ⟨_, _, _, o__law_third, PySem.W.mg_of X G0 a31, k31, b31⟩
  have o__law_case := ok__law_case F32 g c__law_desk c__law_draw c__law_roll c__law_third (P := l.prog) (w := w) (base := base)
  have c__law_case : CalW l.prog w K mg base 3 "_law_case" D__law_case := ⟨_, _, _, o__law_case, PySem.W.mg_of X G0 a32, k32, b32⟩
  exact ok_law F33 g c__law_case c__law_told c__law_well
end LW
open PySem PySem.W PyProof.Rows
set_option maxHeartbeats 0 in
theorem PySem.Challenge.cw_cushionshots_k04_errors_of_places_holds : PySem.Challenge.rw_cushionshots_k04_errors_of_places.Holds := by
  w_on; o_law; k_head; (case hw => w_witness2)
  k_fill
  refine DL.end_law (l := PySem.Challenge.rw_cushionshots_k04_errors_of_places) (k := 11) (x := "script") rfl rfl ⟨⟨rfl, by decide, by decide⟩, rfl⟩ (fun w h Y => PySem.W.kIn_of Y) ?F
  case F =>
    intro w mg fa h KX G hmg
    refine' LW.all_mk KX G hmg ?a1 ?l1 ?c1 ?k1 ?a2 ?l2 ?c2 ?k2 ?a3 ?l3 ?c3 ?k3 ?a4 ?l4 ?c4 ?k4 ?a5 ?l5 ?c5 ?k5 ?a6 ?l6 ?c6 ?k6 ?a7 ?l7 ?c7 ?k7 ?a8 ?l8 ?c8 ?k8 ?a9 ?l9 ?c9 ?k9 ?a10 ?l10 ?c10 ?k10 ?a11 ?l11 ?c11 ?k11 ?a12 ?l12 ?c12 ?k12 ?a13 ?l13 ?c13 ?k13 ?a14 ?l14 ?c14 ?k14 ?a15 ?l15 ?c15 ?k15 ?a16 ?l16 ?c16 ?k16 ?a17 ?l17 ?c17 ?k17 ?a18 ?l18 ?c18 ?k18 ?a19 ?l19 ?c19 ?k19 ?a20 ?l20 ?c20 ?k20 ?a21 ?l21 ?c21 ?k21 ?a22 ?l22 ?c22 ?k22 ?a23 ?l23 ?c23 ?k23 ?a24 ?l24 ?c24 ?k24 ?a25 ?l25 ?c25 ?k25 ?a26 ?l26 ?c26 ?k26 ?a27 ?l27 ?c27 ?k27 ?a28 ?l28 ?c28 ?k28 ?a29 ?l29 ?c29 ?k29 ?a30 ?l30 ?c30 ?k30 ?a31 ?l31 ?c31 ?k31 ?a32 ?l32 ?c32 ?k32 ?a33 ?l33 ?c33 ?k33 ?z_ValueError ?z_abs ?z_all ?z_bool ?z_gcd ?z_int ?z_isinstance ?z_len ?z_list ?z_max ?z_min ?z_range ?z_tuple ?x1_InvalidNumber ?x2_InvalidNumber ?x3_InvalidNumber ?x4_InvalidNumber ?x5_InvalidNumber ?x1_InvalidShot ?x2_InvalidShot ?x3_InvalidShot ?x4_InvalidShot ?x5_InvalidShot ?x1_InvalidSide ?x2_InvalidSide ?x3_InvalidSide ?x4_InvalidSide ?x5_InvalidSide ?x1_InvalidTable ?x2_InvalidTable ?x3_InvalidTable ?x4_InvalidTable ?x5_InvalidTable ?x1_InvalidTime ?x2_InvalidTime ?x3_InvalidTime ?x4_InvalidTime ?x5_InvalidTime ?x1_ShotError ?x4_ShotError ?x5_ShotError ?e4_InvalidNumber ?e4_InvalidShot ?e4_InvalidSide ?e4_InvalidTable ?e4_InvalidTime ?e4_ShotError ?e1_InvalidNumber ?e2_InvalidNumber ?e3_InvalidNumber ?e5_InvalidNumber ?e1_InvalidShot ?e2_InvalidShot ?e3_InvalidShot ?e5_InvalidShot ?e1_InvalidSide ?e2_InvalidSide ?e3_InvalidSide ?e5_InvalidSide ?e1_InvalidTable ?e2_InvalidTable ?e3_InvalidTable ?e5_InvalidTable ?e1_InvalidTime ?e2_InvalidTime ?e3_InvalidTime ?e5_InvalidTime ?hn_ ?ht_ ?kt_InvalidNumber_InvalidNumber ?kt_InvalidNumber_InvalidShot ?kt_InvalidNumber_InvalidSide ?kt_InvalidNumber_InvalidTable ?kt_InvalidNumber_InvalidTime ?kt_InvalidShot_InvalidNumber ?kt_InvalidShot_InvalidShot ?kt_InvalidShot_InvalidSide ?kt_InvalidShot_InvalidTable ?kt_InvalidShot_InvalidTime ?kt_InvalidSide_InvalidNumber ?kt_InvalidSide_InvalidShot ?kt_InvalidSide_InvalidSide ?kt_InvalidSide_InvalidTable ?kt_InvalidSide_InvalidTime ?kt_InvalidTable_InvalidNumber ?kt_InvalidTable_InvalidShot ?kt_InvalidTable_InvalidSide ?kt_InvalidTable_InvalidTable ?kt_InvalidTable_InvalidTime ?kt_InvalidTime_InvalidNumber ?kt_InvalidTime_InvalidShot ?kt_InvalidTime_InvalidSide ?kt_InvalidTime_InvalidTable ?kt_InvalidTime_InvalidTime ?kt_ValueError_InvalidNumber ?kt_ValueError_InvalidShot ?kt_ValueError_InvalidSide ?kt_ValueError_InvalidTable ?kt_ValueError_InvalidTime ?hh_ShotError_InvalidNumber ?hh_ShotError_InvalidShot ?hh_ShotError_InvalidSide ?hh_ShotError_InvalidTable ?hh_ShotError_InvalidTime
    (case a1 => k_is)
    (case l1 => k_is)
    (case c1 => k_is)
    (case k1 => k_is)
    (case a2 => k_is)
    (case l2 => k_is)
    (case c2 => k_is)
    (case k2 => k_is)
    (case a3 => k_is)
    (case l3 => k_is)
    (case c3 => k_is)
    (case k3 => k_is)
    (case a4 => k_is)
    (case l4 => k_is)
    (case c4 => k_is)
    (case k4 => k_is)
    (case a5 => k_is)
    (case l5 => k_is)
    (case c5 => k_is)
    (case k5 => k_is)
    (case a6 => k_is)
    (case l6 => k_is)
    (case c6 => k_is)
    (case k6 => k_is)
    (case a7 => k_is)
    (case l7 => k_is)
    (case c7 => k_is)
    (case k7 => k_is)
    (case a8 => k_is)
    (case l8 => k_is)
    (case c8 => k_is)
    (case k8 => k_is)
    (case a9 => k_is)
    (case l9 => k_is)
    (case c9 => k_is)
    (case k9 => k_is)
    (case a10 => k_is)
    (case l10 => k_is)
    (case c10 => k_is)
    (case k10 => k_is)
    (case a11 => k_is)
    (case l11 => k_is)
    (case c11 => k_is)
    (case k11 => k_is)
    (case a12 => k_is)
    (case l12 => k_is)
    (case c12 => k_is)
    (case k12 => k_is)
    (case a13 => k_is)
    (case l13 => k_is)
    (case c13 => k_is)
    (case k13 => k_is)
    (case a14 => k_is)
    (case l14 => k_is)
    (case c14 => k_is)
    (case k14 => k_is)
    (case a15 => k_is)
    (case l15 => k_is)
    (case c15 => k_is)
    (case k15 => k_is)
    (case a16 => k_is)
    (case l16 => k_is)
    (case c16 => k_is)
    (case k16 => k_is)
    (case a17 => k_is)
    (case l17 => k_is)
    (case c17 => k_is)
    (case k17 => k_is)
    (case a18 => k_is)
    (case l18 => k_is)
    (case c18 => k_is)
    (case k18 => k_is)
    (case a19 => k_is)
    (case l19 => k_is)
    (case c19 => k_is)
    (case k19 => k_is)
    (case a20 => k_is)
    (case l20 => k_is)
    (case c20 => k_is)
    (case k20 => k_is)
    (case a21 => k_is)
    (case l21 => k_is)
    (case c21 => k_is)
    (case k21 => k_is)
    (case a22 => k_is)
    (case l22 => k_is)
    (case c22 => k_is)
    (case k22 => k_is)
    (case a23 => k_is)
    (case l23 => k_is)
    (case c23 => k_is)
    (case k23 => k_is)
    (case a24 => k_is)
    (case l24 => k_is)
    (case c24 => k_is)
    (case k24 => k_is)
    (case a25 => k_is)
    (case l25 => k_is)
    (case c25 => k_is)
    (case k25 => k_is)
    (case a26 => k_is)
    (case l26 => k_is)
    (case c26 => k_is)
    (case k26 => k_is)
    (case a27 => k_is)
    (case l27 => k_is)
    (case c27 => k_is)
    (case k27 => k_is)
    (case a28 => k_is)
    (case l28 => k_is)
    (case c28 => k_is)
    (case k28 => k_is)
    (case a29 => k_is)
    (case l29 => k_is)
    (case c29 => k_is)
    (case k29 => k_is)
    (case a30 => k_is)
    (case l30 => k_is)
    (case c30 => k_is)
    (case k30 => k_is)
    (case a31 => k_is)
    (case l31 => k_is)
    (case c31 => k_is)
    (case k31 => k_is)
    (case a32 => k_is)
    (case l32 => k_is)
    (case c32 => k_is)
    (case k32 => k_is)
    (case a33 => k_is)
    (case l33 => k_is)
    (case c33 => k_is)
    (case k33 => k_is)
    (case z_ValueError => k_is)
    (case z_abs => k_is)
    (case z_all => k_is)
    (case z_bool => k_is)
    (case z_gcd => k_is)
    (case z_int => k_is)
    (case z_isinstance => k_is)
    (case z_len => k_is)
    (case z_list => k_is)
    (case z_max => k_is)
    (case z_min => k_is)
    (case z_range => k_is)
    (case z_tuple => k_is)
    (case x1_InvalidNumber => k_is)
    (case x2_InvalidNumber => k_exc)
    (case x3_InvalidNumber => k_is)
    (case x4_InvalidNumber => k_is)
    (case x5_InvalidNumber => k_is)
    (case x1_InvalidShot => k_is)
    (case x2_InvalidShot => k_exc)
    (case x3_InvalidShot => k_is)
    (case x4_InvalidShot => k_is)
    (case x5_InvalidShot => k_is)
    (case x1_InvalidSide => k_is)
    (case x2_InvalidSide => k_exc)
    (case x3_InvalidSide => k_is)
    (case x4_InvalidSide => k_is)
    (case x5_InvalidSide => k_is)
    (case x1_InvalidTable => k_is)
    (case x2_InvalidTable => k_exc)
    (case x3_InvalidTable => k_is)
    (case x4_InvalidTable => k_is)
    (case x5_InvalidTable => k_is)
    (case x1_InvalidTime => k_is)
    (case x2_InvalidTime => k_exc)
    (case x3_InvalidTime => k_is)
    (case x4_InvalidTime => k_is)
    (case x5_InvalidTime => k_is)
    (case x1_ShotError => k_is)
    (case x4_ShotError => k_is)
    (case x5_ShotError => k_is)
    (case e4_InvalidNumber => k_is)
    (case e4_InvalidShot => k_is)
    (case e4_InvalidSide => k_is)
    (case e4_InvalidTable => k_is)
    (case e4_InvalidTime => k_is)
    (case e4_ShotError => k_is)
    (case e1_InvalidNumber => k_is)
    (case e2_InvalidNumber => k_is)
    (case e3_InvalidNumber => k_is)
    (case e5_InvalidNumber => k_is)
    (case e1_InvalidShot => k_is)
    (case e2_InvalidShot => k_is)
    (case e3_InvalidShot => k_is)
    (case e5_InvalidShot => k_is)
    (case e1_InvalidSide => k_is)
    (case e2_InvalidSide => k_is)
    (case e3_InvalidSide => k_is)
    (case e5_InvalidSide => k_is)
    (case e1_InvalidTable => k_is)
    (case e2_InvalidTable => k_is)
    (case e3_InvalidTable => k_is)
    (case e5_InvalidTable => k_is)
    (case e1_InvalidTime => k_is)
    (case e2_InvalidTime => k_is)
    (case e3_InvalidTime => k_is)
    (case e5_InvalidTime => k_is)
    (case hn_ => k_is)
    (case ht_ => k_is)
    (case kt_InvalidNumber_InvalidNumber => kit_is)
    (case kt_InvalidNumber_InvalidShot => kit_is)
    (case kt_InvalidNumber_InvalidSide => kit_is)
    (case kt_InvalidNumber_InvalidTable => kit_is)
    (case kt_InvalidNumber_InvalidTime => kit_is)
    (case kt_InvalidShot_InvalidNumber => kit_is)
    (case kt_InvalidShot_InvalidShot => kit_is)
    (case kt_InvalidShot_InvalidSide => kit_is)
    (case kt_InvalidShot_InvalidTable => kit_is)
    (case kt_InvalidShot_InvalidTime => kit_is)
    (case kt_InvalidSide_InvalidNumber => kit_is)
    (case kt_InvalidSide_InvalidShot => kit_is)
    (case kt_InvalidSide_InvalidSide => kit_is)
    (case kt_InvalidSide_InvalidTable => kit_is)
    (case kt_InvalidSide_InvalidTime => kit_is)
    (case kt_InvalidTable_InvalidNumber => kit_is)
    (case kt_InvalidTable_InvalidShot => kit_is)
    (case kt_InvalidTable_InvalidSide => kit_is)
    (case kt_InvalidTable_InvalidTable => kit_is)
    (case kt_InvalidTable_InvalidTime => kit_is)
    (case kt_InvalidTime_InvalidNumber => kit_is)
    (case kt_InvalidTime_InvalidShot => kit_is)
    (case kt_InvalidTime_InvalidSide => kit_is)
    (case kt_InvalidTime_InvalidTable => kit_is)
    (case kt_InvalidTime_InvalidTime => kit_is)
    (case kt_ValueError_InvalidNumber => kit_is)
    (case kt_ValueError_InvalidShot => kit_is)
    (case kt_ValueError_InvalidSide => kit_is)
    (case kt_ValueError_InvalidTable => kit_is)
    (case kt_ValueError_InvalidTime => kit_is)
    (case hh_ShotError_InvalidNumber => k_is)
    (case hh_ShotError_InvalidShot => k_is)
    (case hh_ShotError_InvalidSide => k_is)
    (case hh_ShotError_InvalidTable => k_is)
    (case hh_ShotError_InvalidTime => k_is)
