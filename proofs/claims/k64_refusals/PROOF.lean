import PyProof.Rows.All
import PyProof.P3Statements
import PyProof.EqLayable
import PySem.Builtin.Str.Common
import KE.KeyNested
import Wide.All
import OpenK.AllK
import Wide.FinOn
import PyProof.EqAt
import PyProof.EqKinds
import PyProof.TupleCall
import HandS.ForMost
import HandS.Walk
import HandS.WordsExc
import HandS.Wide
import HandS.TupAny
import HandS.Style
import HandS.IsInst
import HandS.Zip
import HandS.Deep
import KE.KDictKeyed
import HandS.TupMul
import KE.KDictDisplayH
import KE.SortData
import HandS.SortInts
import KE.KDictCopyH
import PyProof.DictTruth
import KE.GoesMore
import HandS.Zip0
import HandS.SetBool
import HandS.SetKeys
import HandS.ExcIs
import PySem.Table
import PyProof.TableCode
import PySem.Challenge.RW_coverterms_k64_refusals
set_option Elab.async false
set_option linter.all false
set_option maxRecDepth 100000
set_option maxHeartbeats 0
/-! A small evaluator of a part of Python over plain data: what the linked texts are read as. -/
namespace Rf
open PySem

/-- a value at a name: data, or the n-th list of the store -/
inductive Wd where
  | d (x : PyData)
  | r (n : Nat)
/-- a list of the store: it may be changed; a loop walks it; it has become data -/
inductive So where
  | lst (xs : List PyData)
  | lck (xs : List PyData)
  | frz (xs : List PyData)
  | dct (kvs : List (PyData × PyData))
  | dlk (kvs : List (PyData × PyData))
def So.items : So → List PyData
  | .lst xs => xs
  | .lck xs => xs
  | .frz xs => xs
  | .dct _ => []
  | .dlk _ => []
def So.list? : So → Option (List PyData)
  | .lst xs => some xs
  | .lck xs => some xs
  | .frz xs => some xs
  | .dct _ => none
  | .dlk _ => none
def So.dict? : So → Option (List (PyData × PyData))
  | .dct kvs => some kvs
  | .dlk kvs => some kvs
  | _ => none
def So.mut : So → Bool
  | .frz _ => false
  | _ => true
/-- it may be changed -/
def So.isLst : So → Bool
  | .lst _ => true
  | .dct _ => true
  | _ => false
def So.isLck : So → Bool
  | .lck _ => true
  | .dlk _ => true
  | _ => false
def So.lock : So → So
  | .lst xs => .lck xs
  | .dct kvs => .dlk kvs
  | o => o
def So.unlock : So → So
  | .lck xs => .lst xs
  | .dlk kvs => .dct kvs
  | o => o
theorem So.lock_is (o : So) : o.lock.isLst = false ∧ o.lock.list? = o.list? ∧ o.lock.dict? = o.dict? ∧ o.lock.mut = o.mut := by cases o <;> exact ⟨rfl, rfl, rfl, rfl⟩
theorem So.unlock_is (o : So) : o.unlock.list? = o.list? ∧ o.unlock.dict? = o.dict? ∧ o.unlock.mut = o.mut ∧ o.unlock.isLck = false := by cases o <;> exact ⟨rfl, rfl, rfl, rfl⟩
theorem So.lst_mut {o : So} (h : o.isLst = true) : o.mut = true := by cases o <;> first | rfl | cases h
abbrev Sto := List So
inductive Res (α : Type) where
  | no
  | ex (c : String) (S : Sto)
  | ok (a : α) (S : Sto)
def Res.bind {α β : Type} (r : Res α) (f : α → Sto → Res β) : Res β :=
  match r with
  | .no => .no
  | .ex c S => .ex c S
  | .ok a S => f a S
@[simp] theorem bind_ok {α β : Type} (a : α) (S : Sto) (f : α → Sto → Res β) : (Res.ok a S).bind f = f a S := rfl
@[simp] theorem bind_ex {α β : Type} (c : String) (S : Sto) (f : α → Sto → Res β) : (Res.ex c S : Res α).bind f = .ex c S := rfl
@[simp] theorem bind_no {α β : Type} (f : α → Sto → Res β) : (Res.no : Res α).bind f = .no := rfl
/-- an exception is not served here -/
def Res.nox {α : Type} (r : Res α) : Res α := match r with
  | .ex _ _ => .no
  | r => r
@[simp] theorem nox_ok {α : Type} (a : α) (S : Sto) : (Res.ok a S).nox = .ok a S := rfl
/-- what a call gives -/
inductive Cr where
  | no
  | ex (c : String)
  | d (x : PyData)
  | fresh (xs : List PyData)
abbrev Orc := String → List Wd → Sto → Cr
abbrev Env := List (Option Wd)

def LIM : Nat := 16777216
def strIn (x y : Str) : Bool := !(Builtin.Str.occurrences y x 0 y.length 1).isEmpty

def peek (S : Sto) : Wd → Option PyData
  | .d x => some x
  | .r n => (S[n]?).bind fun o => o.list?.map .list
def peeks (S : Sto) : List Wd → Option (List PyData)
  | [] => some []
  | w :: ws => (peek S w).bind fun x => (peeks S ws).map (x :: ·)
/-- a value becomes data: a list of the frame's own is not changed any more -/
def toD (lo : Nat) (w : Wd) (S : Sto) : Res PyData := match w with
  | .d x => .ok x S
  | .r n => match S[n]? with
    | some (.frz xs) => .ok (.list xs) S
    | some (.lst xs) => if lo ≤ n then .ok (.list xs) (S.set n (.frz xs)) else .no
    | _ => .no
def toDs (lo : Nat) : List Wd → Sto → Res (List PyData)
  | [], S => .ok [] S
  | w :: ws, S => (toD lo w S).bind fun x S1 => (toDs lo ws S1).bind fun xs S2 => .ok (x :: xs) S2

mutual
/-- the very same data -/
def same : PyData → PyData → Bool
  | .none, .none => true
  | .bool a, .bool b => a == b
  | .int a, .int b => a == b
  | .str a, .str b => a == b
  | .list a, .list b => sameA a b
  | .tuple a, .tuple b => sameA a b
  | _, _ => false
def sameA : List PyData → List PyData → Bool
  | [], [] => true
  | x :: xs, y :: ys => same x y && sameA xs ys
  | _, _ => false
end
mutual
theorem same_eq : ∀ (a b : PyData), same a b = true → a = b
  | .none, b, h => by cases b <;> simp [same] at h ⊢
  | .bool a, b, h => by cases b <;> simp [same] at h ⊢; exact h
  | .int a, b, h => by cases b <;> simp [same] at h ⊢; exact h
  | .str a, b, h => by cases b <;> simp [same] at h ⊢; exact h
  | .list a, b, h => by cases b <;> simp [same] at h ⊢; exact sameA_eq a _ h
  | .tuple a, b, h => by cases b <;> simp [same] at h ⊢; exact sameA_eq a _ h
  | .dict a, b, h => by cases b <;> simp [same] at h
theorem sameA_eq : ∀ (a b : List PyData), sameA a b = true → a = b
  | [], b, h => by cases b <;> simp [sameA] at h ⊢
  | x :: xs, b, h => by
    cases b with
    | nil => simp [sameA] at h
    | cons y ys =>
      simp [sameA] at h
      rw [same_eq x y h.1, sameA_eq xs ys h.2]
end

inductive Bop where
  | add | sub | mul | fdiv | mod | pow
inductive Cop where
  | eq | ne | lt | le | gt | ge | is | isn | isin | nin
def binD : Bop → PyData → PyData → Option PyData
  | .add, .int a, .int b => some (.int (a + b))
  | .add, .str a, .str b => if a.length + b.length ≤ LIM then some (.str (a ++ b)) else none
  | .add, .tuple a, .tuple b => if a.length + b.length ≤ LIM then some (.tuple (a ++ b)) else none
  | .add, .list a, .list b => if a.length + b.length ≤ LIM then some (.list (a ++ b)) else none
  | .sub, .int a, .int b => some (.int (a - b))
  | .mul, .int a, .int b => if (-(2 ^ 64) < a ∧ a < 2 ^ 64) ∨ (-(2 ^ 64) < b ∧ b < 2 ^ 64) then some (.int (a * b)) else none
  | .mul, .tuple a, .int b => if a.length ≠ 0 ∧ 2 ≤ b ∧ b ≤ 1000 ∧ a.length ≤ 1000 then some (.tuple (List.replicate b.toNat a).flatten) else none
  | .mul, .list a, .int b => if 0 ≤ b ∧ b ≤ 1000 ∧ a.length ≤ 1000 then some (.list (List.replicate b.toNat a).flatten) else none
  | .fdiv, .int a, .int b => if 0 < b ∧ b < 2 ^ 64 then some (.int (a / b)) else none
  | .mod, .int a, .int b => if 0 < b then some (.int (a % b)) else none
  | .pow, .int a, .int b => if 0 ≤ b ∧ b ≤ 1000 ∧ a.natAbs < 2 ^ 64 then some (.int (a ^ b.toNat)) else none
  | _, _, _ => none
def okD (d : PyData) : Bool := SeqAt.shaped d
def isOf : PyData → PyData → Option Bool
  | .none, .none => some true
  | .bool a, .bool b => some (decide (a = b))
  | _, .none => some false
  | _, _ => none
def cmpD : Cop → PyData → PyData → Option Bool
  | .eq, a, b => if okD a && okD b then some (PyData.eqv a b) else none
  | .ne, a, b => if okD a && okD b then some (!PyData.eqv a b) else none
  | .lt, .int a, .int b => some (decide (a < b))
  | .le, .int a, .int b => some (decide (a ≤ b))
  | .gt, .int a, .int b => some (decide (b < a))
  | .ge, .int a, .int b => some (decide (b ≤ a))
  | .is, a, b => isOf a b
  | .isn, a, b => (isOf a b).map (!·)
  | .isin, .str a, .str b => some (strIn a b)
  | .nin, .str a, .str b => some (!strIn a b)
  | .isin, a, .list b => if okD a && okD (.list b) then some (b.any fun z => PyData.eqv z a) else none
  | .nin, a, .list b => if okD a && okD (.list b) then some (!b.any fun z => PyData.eqv z a) else none
  | .isin, a, .tuple b => if okD a && okD (.tuple b) then some (b.any fun z => PyData.eqv z a) else none
  | .nin, a, .tuple b => if okD a && okD (.tuple b) then some (!b.any fun z => PyData.eqv z a) else none
  | _, _, _ => none
inductive Ty where
  | bool | int | str | tuple | list
def isiD : Ty → PyData → Bool
  | .bool, .bool _ => true
  | .int, .bool _ => true
  | .int, .int _ => true
  | .str, .str _ => true
  | .tuple, .tuple _ => true
  | .list, .list _ => true
  | _, _ => false
def ixAt (n : Nat) (i : Int) : Option Nat := if 0 ≤ i then (if i < n then some i.toNat else none) else if -(n : Int) ≤ i then some (i + n).toNat else none
def idxD : PyData → PyData → Option PyData
  | .list xs, .int i => (ixAt xs.length i).bind fun j => xs[j]?
  | .tuple xs, .int i => (ixAt xs.length i).bind fun j => xs[j]?
  | .str z, .int i => if z.length ≤ LIM then (ixAt z.length i).bind fun j => (z.cps[j]?).map fun c => .str ⟨#[c]⟩ else none
  | _, _ => none
def clipI (n d : Nat) : Option Int → Nat
  | none => d
  | some v => (if v < 0 then max (v + (n : Int)) 0 else min v (n : Int)).toNat
def cutL (xs : List PyData) (lo hi : Option Int) : List PyData := (xs.drop (clipI xs.length 0 lo)).take (clipI xs.length xs.length hi - clipI xs.length 0 lo)
def sliD : PyData → Option Int → Option Int → Option PyData
  | .tuple xs, lo, hi => some (.tuple (cutL xs lo hi))
  | .list xs, lo, hi => some (.list (cutL xs lo hi))
  | _, _, _ => none
def bools : List PyData → Option (List Bool)
  | [] => some []
  | .bool b :: r => (bools r).map (b :: ·)
  | _ => none
def intsOf : List PyData → Option (List Int)
  | [] => some []
  | .int b :: r => (intsOf r).map (b :: ·)
  | _ => none
def strsOf : List PyData → Option (List Str)
  | [] => some []
  | .str b :: r => (strsOf r).map (b :: ·)
  | _ => none
def minL : Int → List Int → Int
  | a, [] => a
  | a, b :: r => minL (if b < a then b else a) r
def maxL : Int → List Int → Int
  | a, [] => a
  | a, b :: r => maxL (if a < b then b else a) r
inductive Bi where
  | len | all | any | tuple | list | int | max | min | sum
/-- a built-in function at the arguments' views -/
def biD : Bi → List PyData → Option PyData
  | .len, [.list xs] => some (.int xs.length)
  | .len, [.tuple xs] => some (.int xs.length)
  | .len, [.str x] => if x.length ≤ LIM then some (.int x.length) else none
  | .all, [.list xs] => (bools xs).map fun bs => .bool (bs.all id)
  | .any, [.list xs] => (bools xs).map fun bs => .bool (bs.any id)
  | .tuple, [.list xs] => some (.tuple xs)
  | .tuple, [.tuple xs] => some (.tuple xs)
  | .list, [.list xs] => some (.list xs)
  | .list, [.tuple xs] => some (.list xs)
  | .int, [.int i] => some (.int i)
  | .int, [.bool b] => some (.int (if b then 1 else 0))
  | .max, [.int i, .int j] => some (.int (if j > i then j else i))
  | .min, [.int i, .int j] => some (.int (if j < i then j else i))
  | .max, [.list xs] => (intsOf xs).bind fun | a :: r => some (.int (maxL a r)) | [] => none
  | .min, [.list xs] => (intsOf xs).bind fun | a :: r => some (.int (minL a r)) | [] => none
  | .sum, [.list xs] => (intsOf xs).map fun ns => .int ns.sum
  | _, _ => none
def joinD (sep : Str) (xs : List Str) : Option PyData := if (xs.map (·.length)).sum + xs.length * sep.length ≤ LIM then some (.str (Str.join sep xs)) else none
def itemsD : PyData → Option (List PyData)
  | .list xs => some xs
  | .tuple xs => some xs
  | .str z => if z.length ≤ LIM then some (z.cps.toList.map fun c => .str ⟨#[c]⟩) else none
  | _ => none
def rangeL (a : Int) : Nat → List PyData
  | 0 => []
  | n + 1 => .int a :: rangeL (a + 1) n
def enumL (a : Nat) : List PyData → List PyData
  | [] => []
  | x :: r => .tuple [.int a, x] :: enumL (a + 1) r
def zipL : List PyData → List PyData → List PyData
  | x :: xs, y :: ys => .tuple [x, y] :: zipL xs ys
  | _, _ => []

/-! a target -/
mutual
inductive T where
  | v (i : Nat)
  | tup (ts : List Nat)
  | nest (ts : Ts)
inductive Ts where
  | nil
  | cons (t : T) (ts : Ts)
end
def bindAll : List Nat → List PyData → Env → Env
  | i :: is, x :: xs, env => bindAll is xs (env.set i (some (.d x)))
  | _, _, env => env
mutual
def T.put : T → PyData → Env → Option Env
  | .v i, x, env => some (env.set i (some (.d x)))
  | .tup ts, .tuple xs, env => if xs.length = ts.length then some (bindAll ts xs env) else none
  | .tup _, _, _ => none
  | .nest ts, .tuple xs, env => ts.puts xs env
  | .nest _, _, _ => none
def Ts.puts : Ts → List PyData → Env → Option Env
  | .nil, [], env => some env
  | .cons t ts, x :: xs, env => (t.put x env).bind fun env => ts.puts xs env
  | _, _, _ => none
end
mutual
def T.slots : T → List Nat
  | .v i => [i]
  | .tup ts => ts
  | .nest ts => ts.slots
def Ts.slots : Ts → List Nat
  | .nil => []
  | .cons t ts => t.slots ++ ts.slots
end
def wipeE (env : Env) : List Nat → Env
  | [] => env
  | v :: vs => (wipeE env vs).set v none

mutual
/-- what key the data is -/
def nkey : PyData → Option NestedKey
  | .none => some .none
  | .bool b => some (.num (if b = true then 1 else 0))
  | .int i => some (.num i)
  | .str x => some (.text x)
  | .tuple ds => (nkeys ds).map .tup
  | .list _ => none
  | .dict _ => none
def nkeys : List PyData → Option (List NestedKey)
  | [] => some []
  | d :: r => (nkey d).bind fun k => (nkeys r).map (k :: ·)
end
/-- what the entries hold at the key -/
def dFind (kvs : List (PyData × PyData)) (k : NestedKey) : Option PyData := (kvs.find? fun kv => decide (nkey kv.1 = some k)).map (·.2)
def dPut (kvs : List (PyData × PyData)) (k : NestedKey) (kd vd : PyData) : List (PyData × PyData) :=
  if (dFind kvs k).isSome then kvs.map (fun kv => if nkey kv.1 = some k then (kv.1, vd) else kv) else kvs ++ [(kd, vd)]
def keyT : PyData → Option NestedKey
  | .tuple ds => (nkey (.tuple ds)).bind fun k => if k.depth ≤ 8 then some k else none
  | _ => none
def dictW (S : Sto) : Wd → Option (List (PyData × PyData))
  | .r n => (S[n]?).bind So.dict?
  | .d _ => none
mutual
inductive E where
  | var (i : Nat)
  | con (c : PyData)
  | glo (x : String) (c : PyData)
  | tup (a : Es)
  | lst (a : Es)
  | bin (op : Bop) (a b : E)
  | neg (a : E)
  | cmp (op : Cop) (a b : E)
  | chn (o p : Cop) (a b c : E)
  | and (a b : E)
  | or (a b : E)
  | not (a : E)
  | ite (c a b : E)
  | call (f : String) (a : Es)
  | bi (f : Bi) (a : Es)
  | isi (a : E) (t : Ty)
  | idx (a i : E)
  | din (neg : Bool) (a b : E)
  | dget (b a : E)
  | sli (a : E) (lo hi : Option E)
  | rev (a : E)
  | comp (vs : List Nat) (t : T) (it : I) (c : Option E) (x : E)
  | lset (vs : List Nat) (t : T) (it : I) (x : E)
  | join (o a : E)
  | maxD (mn : Bool) (a d : E)
  | callX (fs : List String) (i : E) (a : Es)
inductive Es where
  | nil
  | cons (a : E) (b : Es)
/-- what a loop goes over -/
inductive I where
  | of (a : E)
  | range1 (a : Es)
  | range2 (a : Es)
  | enum (a : Es)
  | zip (a : Es)
  | enumZ (a : Es)
end

def optC (y : Option PyData) (ys : List PyData) : List PyData := match y with
  | some y => y :: ys
  | none => ys
def compGo (f : PyData → Sto → Res (Option PyData)) : List PyData → Sto → Res (List PyData)
  | [], S => .ok [] S
  | x :: xs, S => (f x S).bind fun y S1 => (compGo f xs S1).bind fun ys S2 => .ok (optC y ys) S2
def orNo {α : Type} (o : Option α) (S : Sto) : Res α := match o with
  | some a => .ok a S
  | none => .no
@[simp] theorem orNo_some {α : Type} (a : α) (S : Sto) : orNo (some a) S = .ok a S := rfl
@[simp] theorem orNo_none {α : Type} (S : Sto) : orNo (none : Option α) S = .no := rfl
def asB : Wd → Option Bool
  | .d (.bool b) => some b
  | _ => none
def asI : Wd → Option Int
  | .d (.int i) => some i
  | _ => none
def asS : Wd → Option Str
  | .d (.str i) => some i
  | _ => none
def asL : PyData → Option (List PyData)
  | .list xs => some xs
  | _ => none
def asI1 : List Wd → Option Int
  | [.d (.int i)] => some i
  | _ => none
def asI2 : List Wd → Option (Int × Int)
  | [.d (.int i), .d (.int j)] => some (i, j)
  | _ => none
def seq1 : List PyData → Option (List PyData)
  | [.list xs] => some xs
  | [.tuple xs] => some xs
  | _ => none
def seq2 : List PyData → Option (List PyData × List PyData)
  | [.list xs, .list ys] => some (xs, ys)
  | [.tuple xs, .tuple ys] => some (xs, ys)
  | _ => none
def tup2 : List PyData → Option (List PyData × List PyData)
  | [.tuple xs, .tuple ys] => some (xs, ys)
  | _ => none
def rngB (i : Int) : Bool := decide (-(2 ^ 62) ≤ i ∧ i < 2 ^ 62)
def dedup : List Str → List Str
  | [] => []
  | x :: r => if x ∈ r then dedup r else x :: dedup r

def maxW (mn : Bool) : List Int → Wd → Wd
  | [], y => y
  | a :: r, _ => .d (.int (if mn then minL a r else maxL a r))
def fnAt (fs : List String) (i : Int) : Option String := if 0 ≤ i then fs[i.toNat]? else none
/-- what a call gives to the caller -/
def crRes (r : Cr) (S : Sto) : Res Wd := match r with
  | .d x => .ok (.d x) S
  | .fresh xs => .ok (.d (.list xs)) S
  | .ex c => .ex c S
  | .no => .no
mutual
def ev (O : Orc) (lo : Nat) : E → Env → Sto → Res Wd
  | .var i, env, S => match env[i]? with
    | some (some w) => .ok w S
    | _ => .no
  | .con c, _, S => .ok (.d c) S
  | .glo _ c, _, S => .ok (.d c) S
  | .tup a, env, S => (evs O lo a env S).bind fun ws S1 => (toDs lo ws S1).bind fun xs S2 => .ok (.d (.tuple xs)) S2
  | .lst a, env, S => (evs O lo a env S).bind fun ws S1 => (toDs lo ws S1).bind fun xs S2 => .ok (.d (.list xs)) S2
  | .bin op a b, env, S => (ev O lo a env S).bind fun x S1 => (ev O lo b env S1).bind fun y S2 =>
      (orNo (peek S2 x) S2).bind fun x' _ => (orNo (peek S2 y) S2).bind fun y' _ => (orNo (binD op x' y') S2).bind fun z _ => .ok (.d z) S2
  | .neg a, env, S => (ev O lo a env S).bind fun x S1 => (orNo (asI x) S1).bind fun i _ => .ok (.d (.int (-i))) S1
  | .din neg a b, env, S => (ev O lo a env S).bind fun x S1 => (ev O lo b env S1).bind fun y S2 =>
      (orNo (peek S2 x) S2).bind fun x' _ => (orNo (keyT x') S2).bind fun k _ => (orNo (dictW S2 y) S2).bind fun kvs _ => .ok (.d (.bool (neg != (dFind kvs k).isSome))) S2
  | .dget b a, env, S => (ev O lo b env S).bind fun y S1 => (ev O lo a env S1).bind fun x S2 =>
      (orNo (peek S2 x) S2).bind fun x' _ => (orNo (keyT x') S2).bind fun k _ => (orNo (dictW S2 y) S2).bind fun kvs _ => (orNo (dFind kvs k) S2).bind fun d _ => .ok (.d d) S2
  | .cmp op a b, env, S => (ev O lo a env S).bind fun x S1 => (ev O lo b env S1).bind fun y S2 =>
      (orNo (peek S2 x) S2).bind fun x' _ => (orNo (peek S2 y) S2).bind fun y' _ => (orNo (cmpD op x' y') S2).bind fun z _ => .ok (.d (.bool z)) S2
  | .chn o p a b c, env, S => (ev O lo a env S).bind fun x S1 => (ev O lo b env S1).bind fun y S2 =>
      (orNo (peek S2 x) S2).bind fun x' _ => (orNo (peek S2 y) S2).bind fun y' _ => (orNo (cmpD o x' y') S2).bind fun z _ =>
        if z then (ev O lo c env S2).bind fun w S3 => (orNo (peek S3 w) S3).bind fun w' _ => (orNo (peek S3 y) S3).bind fun y2 _ => (orNo (cmpD p y2 w') S3).bind fun z2 _ => .ok (.d (.bool z2)) S3
        else .ok (.d (.bool false)) S2
  | .and a b, env, S => (ev O lo a env S).bind fun x S1 => (orNo (asB x) S1).bind fun k _ => if k then ev O lo b env S1 else .ok (.d (.bool false)) S1
  | .or a b, env, S => (ev O lo a env S).bind fun x S1 => (orNo (asB x) S1).bind fun k _ => if k then .ok (.d (.bool true)) S1 else ev O lo b env S1
  | .not a, env, S => (ev O lo a env S).bind fun x S1 => (orNo (asB x) S1).bind fun k _ => .ok (.d (.bool (!k))) S1
  | .ite c a b, env, S => (ev O lo c env S).bind fun x S1 => (orNo (asB x) S1).bind fun k _ => if k then ev O lo a env S1 else ev O lo b env S1
  | .call f a, env, S => (evs O lo a env S).bind fun ws S1 => match O f ws S1 with
    | .d x => .ok (.d x) S1
    | .fresh xs => .ok (.d (.list xs)) S1
    | .ex c => .ex c S1
    | .no => .no
  | .bi f a, env, S => (evs O lo a env S).bind fun ws S1 => (orNo (peeks S1 ws) S1).bind fun xs _ => (orNo (biD f xs) S1).bind fun z _ => .ok (.d z) S1
  | .isi a t, env, S => (ev O lo a env S).bind fun x S1 => (orNo (peek S1 x) S1).bind fun x' _ => .ok (.d (.bool (isiD t x'))) S1
  | .idx a i, env, S => (ev O lo a env S).bind fun x S1 => (ev O lo i env S1).bind fun y S2 =>
      (orNo (peek S2 x) S2).bind fun x' _ => (orNo (peek S2 y) S2).bind fun y' _ => (orNo (idxD x' y') S2).bind fun z _ => .ok (.d z) S2
  | .sli a l h, env, S => (ev O lo a env S).bind fun x S1 => (evo O lo l env S1).bind fun i S2 => (evo O lo h env S2).bind fun j S3 =>
      (orNo (peek S3 x) S3).bind fun x' _ => (orNo (sliD x' i j) S3).bind fun z _ => .ok (.d z) S3
  | .rev a, env, S => (ev O lo a env S).bind fun x S1 => (orNo (peek S1 x) S1).bind fun x' _ => match x' with
    | .tuple xs => .ok (.d (.tuple xs.reverse)) S1
    | _ => .no
  | .comp vs t it c x, env, S => (evI O lo it env S).bind fun p S1 => (compGo (fun y S => (orNo (t.put y (wipeE env vs)) S).bind fun env1 S =>
      ((evc O lo c env1 S).bind fun k S2 => if k then (ev O lo x env1 S2).bind fun w S3 => (toD lo w S3).bind fun z S4 => .ok (some z) S4 else .ok none S2).nox) p.1 S1).bind fun ys S2 => .ok (.d (.list ys)) S2
  | .lset vs t it x, env, S => (evI O lo it env S).bind fun p S1 => if p.1.length ≤ 8 then (compGo (fun y S => (orNo (t.put y (wipeE env vs)) S).bind fun env1 S =>
      ((ev O lo x env1 S).bind fun w S3 => (orNo (asS w) S3).bind fun z _ => .ok (some (.str z)) S3).nox) p.1 S1).bind fun ys S2 => (orNo (strsOf ys) S2).bind fun zs _ => .ok (.d (.int (dedup zs).length)) S2 else .no
  | .join o a, env, S => (ev O lo o env S).bind fun x S1 => (orNo (asS x) S1).bind fun s _ => (ev O lo a env S1).bind fun y S2 =>
      (orNo (peek S2 y) S2).bind fun y' _ => (orNo (asL y') S2).bind fun ys _ => (orNo (strsOf ys) S2).bind fun zs _ => (orNo (joinD s zs) S2).bind fun z _ => .ok (.d z) S2
  | .maxD mn a d, env, S => (ev O lo a env S).bind fun x S1 => (ev O lo d env S1).bind fun y S2 =>
      (orNo (peek S2 x) S2).bind fun x' _ => (orNo (asL x') S2).bind fun xs _ => (orNo (intsOf xs) S2).bind fun ns _ => .ok (maxW mn ns y) S2
  | .callX fs i a, env, S => (ev O lo i env S).bind fun x S0 => (orNo ((asI x).bind (fnAt fs)) S0).bind fun f _ => (evs O lo a env S0).bind fun ws S1 => crRes (O f ws S1) S1
def evs (O : Orc) (lo : Nat) : Es → Env → Sto → Res (List Wd)
  | .nil, _, S => .ok [] S
  | .cons a b, env, S => (ev O lo a env S).bind fun w S1 => (evs O lo b env S1).bind fun ws S2 => .ok (w :: ws) S2
def evo (O : Orc) (lo : Nat) : Option E → Env → Sto → Res (Option Int)
  | none, _, S => .ok none S
  | some e, env, S => (ev O lo e env S).bind fun w S1 => (orNo (asI w) S1).bind fun i _ => .ok (some i) S1
def evc (O : Orc) (lo : Nat) : Option E → Env → Sto → Res Bool
  | none, _, S => .ok true S
  | some e, env, S => (ev O lo e env S).bind fun w S1 => (orNo (asB w) S1).bind fun i _ => .ok i S1
def evI (O : Orc) (lo : Nat) : I → Env → Sto → Res (List PyData × List Wd)
  | .of a, env, S => (ev O lo a env S).bind fun x S1 => (orNo (peek S1 x) S1).bind fun x' _ => (orNo (itemsD x') S1).bind fun xs _ => .ok (xs, [x]) S1
  | .range1 a, env, S => (evs O lo a env S).bind fun ws S1 => (orNo (asI1 ws) S1).bind fun j _ => if rngB j && decide (j.toNat ≤ LIM) then .ok (rangeL 0 j.toNat, []) S1 else .no
  | .range2 a, env, S => (evs O lo a env S).bind fun ws S1 => (orNo (asI2 ws) S1).bind fun p _ =>
      if rngB p.1 && rngB p.2 && decide ((p.2 - p.1).toNat ≤ LIM) then .ok (rangeL p.1 (p.2 - p.1).toNat, []) S1 else .no
  | .enum a, env, S => (evs O lo a env S).bind fun ws S1 => (orNo (peeks S1 ws) S1).bind fun xs _ => (orNo (seq1 xs) S1).bind fun ys _ => .ok (enumL 0 ys, ws) S1
  | .zip a, env, S => (evs O lo a env S).bind fun ws S1 => (orNo (peeks S1 ws) S1).bind fun xs _ => (orNo (seq2 xs) S1).bind fun p _ => .ok (zipL p.1 p.2, ws) S1
  | .enumZ a, env, S => (evs O lo a env S).bind fun ws S1 => (orNo (peeks S1 ws) S1).bind fun xs _ => (orNo (tup2 xs) S1).bind fun p _ => .ok (enumL 0 (zipL p.1 p.2), ws) S1
end
def Es.len : Es → Nat
  | .nil => 0
  | .cons _ b => b.len + 1
theorem evs_len {O : Orc} {lo : Nat} : ∀ {a : Es} {env : Env} {S S1 : Sto} {ws : List Wd}, evs O lo a env S = .ok ws S1 → ws.length = a.len
  | .nil, _, _, _, _, e => by cases e; rfl
  | .cons a b, env, S, S1, ws, e => by
    simp only [evs] at e
    cases e1 : ev O lo a env S with
    | no => rw [e1] at e; cases e
    | ex c S2 => rw [e1] at e; cases e
    | ok w S2 =>
      rw [e1] at e
      simp only [bind_ok] at e
      cases e2 : evs O lo b env S2 with
      | no => rw [e2] at e; cases e
      | ex c S2 => rw [e2] at e; cases e
      | ok w S3 =>
        rw [e2] at e
        cases e
        simp [Es.len, evs_len e2]
end Rf
/-! Statements. -/
namespace Rf
open PySem

/-- one of several values that are stored at once: an expression's, a new list of the frame's own -/
inductive Pe where
  | e (a : E)
  | o (a : Es)
inductive Po1 where
  | w (x : Wd)
  | l (xs : List PyData)
def evP (O : Orc) (lo : Nat) : List Pe → Env → Sto → Res (List Po1)
  | [], _, S => .ok [] S
  | .e a :: r, env, S => (ev O lo a env S).bind fun w S1 => (evP O lo r env S1).bind fun ps S2 => .ok (.w w :: ps) S2
  | .o a :: r, env, S => (evs O lo a env S).bind fun ws S1 => (toDs lo ws S1).bind fun xs S2 => (evP O lo r env S2).bind fun ps S3 => .ok (.l xs :: ps) S3
def storeP : List Nat → List Po1 → Env → Sto → Env × Sto
  | i :: is, .w w :: ps, env, S => storeP is ps (env.set i (some w)) S
  | i :: is, .l xs :: ps, env, S => storeP is ps (env.set i (some (.r S.length))) (S ++ [.lst xs])
  | _, _, env, S => (env, S)
mutual
inductive C where
  | set (i : Nat) (e : E)
  | own (i : Nat) (e : Es)
  | unp (is : List Nat) (e : E)
  | par (i j : Nat) (a b : E)
  | parG (is : List Nat) (ps : List Pe)
  | aug (i : Nat) (op : Bop) (e : E)
  | app (i : Nat) (e : E)
  | dput (i : Nat) (a b : E)
  | dnew (i : Nat)
  | ext (i : Nat) (e : E)
  | ife (c : E) (a b : Cs)
  | loop (t : T) (it : I) (b : Cs)
  | whl (c : E) (b : Cs)
  | ret (e : E)
  | rais (c : String)
  | xpr (e : E)
  | tryF (b : Cs) (i j : Nat) (Ls : List (List String))
inductive Cs where
  | nil
  | cons (a : C) (b : Cs)
end
inductive Rs where
  | no
  | ex (c : String) (env : Env) (S : Sto)
  | nx (env : Env) (S : Sto)
  | rt (w : Wd) (S : Sto)
  | bk (env : Env) (S : Sto)
  | ct (env : Env) (S : Sto)
def Res.rs {α : Type} (r : Res α) (env : Env) (f : α → Sto → Rs) : Rs := match r with
  | .no => .no
  | .ex c S => .ex c env S
  | .ok a S => f a S
@[simp] theorem rs_ok {α : Type} (a : α) (S : Sto) (env : Env) (f : α → Sto → Rs) : (Res.ok a S).rs env f = f a S := rfl
def Rs.then (r : Rs) (f : Env → Sto → Rs) : Rs := match r with
  | .nx env S => f env S
  | r => r
@[simp] theorem then_nx (env : Env) (S : Sto) (f : Env → Sto → Rs) : (Rs.nx env S).then f = f env S := rfl
@[simp] theorem then_rt (w : Wd) (S : Sto) (f : Env → Sto → Rs) : (Rs.rt w S).then f = .rt w S := rfl
/-- a loop's list is locked, then free again -/
def lockW (lo : Nat) (S : Sto) : Wd → Sto
  | .d _ => S
  | .r n => match S[n]? with
    | some o => if o.isLst = true ∧ lo ≤ n then S.set n o.lock else S
    | none => S
def lockAll (lo : Nat) : List Wd → Sto → Sto
  | [], S => S
  | w :: ws, S => lockAll lo ws (lockW lo S w)
/-- those that were free ahead of the loop -/
def freeW (lo : Nat) (S0 S : Sto) : Wd → Sto
  | .d _ => S
  | .r n => match S0[n]?, S[n]? with
    | some o0, some o => if o0.isLst = true ∧ o.isLck = true ∧ lo ≤ n then S.set n o.unlock else S
    | _, _ => S
def freeAll (lo : Nat) (S0 : Sto) : List Wd → Sto → Sto
  | [], S => S
  | w :: ws, S => freeAll lo S0 ws (freeW lo S0 S w)
def Rs.free (lo : Nat) (S0 : Sto) (ws : List Wd) : Rs → Rs
  | .nx env S => .nx env (freeAll lo S0 ws S)
  | r => r
def forGo (step : PyData → Env → Sto → Rs) : List PyData → Env → Sto → Rs
  | [], env, S => .nx env S
  | x :: xs, env, S => match step x env S with
    | .nx env S => forGo step xs env S
    | .ct env S => forGo step xs env S
    | .bk env S => .nx env S
    | r => r
def whGo (cond : Env → Sto → Res Bool) (body : Env → Sto → Rs) : Nat → Env → Sto → Rs
  | 0, _, _ => .no
  | n + 1, env, S => (cond env S).rs env fun b S => if b then (match body env S with
    | .nx env S => whGo cond body n env S
    | .ct env S => whGo cond body n env S
    | .bk env S => .nx env S
    | r => r) else .nx env S
/-- the list of the store that a name holds -/
def lstAt (lo : Nat) (env : Env) (S : Sto) (i : Nat) : Option (Nat × List PyData) := match env[i]? with
  | some (some (.r n)) => if lo ≤ n then (match S[n]? with
    | some (.lst xs) => some (n, xs)
    | _ => none) else none
  | _ => none
/-- the frame's own dict -/
def dctAt (lo : Nat) (env : Env) (S : Sto) (i : Nat) : Option (Nat × List (PyData × PyData)) := match env[i]? with
  | some (some (.r n)) => if lo ≤ n then (match S[n]? with
    | some (.dct kvs) => some (n, kvs)
    | _ => none) else none
  | _ => none
def augD (op : Bop) (x y : PyData) : Option PyData := match op, x, y with
  | .add, .int a, .int b => some (.int (a + b))
  | .sub, .int a, .int b => some (.int (a - b))
  | _, _, _ => none
def optRs {α : Type} (o : Option α) (f : α → Rs) : Rs := match o with
  | none => .no
  | some a => f a
@[simp] theorem optRs_some {α : Type} (a : α) (f : α → Rs) : optRs (some a) f = f a := rfl
def argOf : Wd → Option PyData
  | .d x => some x
  | _ => none
/-- the first place of a name -/
def placeOf (c : String) : List String → Option Nat
  | [] => none
  | x :: r => if x = c then some 0 else (placeOf c r).map (· + 1)
/-- an exception's class is told by its place -/
def Rs.flag (i j : Nat) (Ls : List (List String)) (r : Rs) : Rs := match r with
  | .ex c env S1 => if i < env.length ∧ j < env.length then optRs (placeOf c Ls.flatten) fun n => .rt (.d (.int n)) S1 else .no
  | r => r
mutual
def exC (O : Orc) (fu lo : Nat) : C → Env → Sto → Rs
  | .set i e, env, S => (ev O lo e env S).rs env fun w S => .nx (env.set i (some w)) S
  | .own i e, env, S => (evs O lo e env S).rs env fun ws S => (toDs lo ws S).rs env fun xs S => .nx (env.set i (some (.r S.length))) (S ++ [.lst xs])
  | .unp is e, env, S => (ev O lo e env S).rs env fun w S => optRs (argOf w) fun x => optRs ((T.tup is).put x env) fun env => .nx env S
  | .par i j a b, env, S => (ev O lo a env S).rs env fun x S => (ev O lo b env S).rs env fun y S => .nx ((env.set i (some x)).set j (some y)) S
  | .parG is ps, env, S => (evP O lo ps env S).rs env fun qs S => .nx (storeP is qs env S).1 (storeP is qs env S).2
  | .aug i op e, env, S => optRs ((env[i]?).bind id) fun x => (ev O lo e env S).rs env fun y S => optRs (argOf x) fun x' => optRs (argOf y) fun y' => optRs (augD op x' y') fun z => .nx (env.set i (some (.d z))) S
  | .dput i a b, env, S => optRs (dctAt lo env S i) fun _ => (ev O lo b env S).rs env fun w S => (toD lo w S).rs env fun z S => (ev O lo a env S).rs env fun x S =>
      optRs (peek S x) fun x' => optRs (keyT x') fun k => optRs (dctAt lo env S i) fun q => if q.2.length + 1 ≤ LIM then .nx env (S.set q.1 (.dct (dPut q.2 k x' z))) else .no
  | .dnew i, env, S => .nx (env.set i (some (.r S.length))) (S ++ [.dct []])
  | .app i e, env, S => optRs (lstAt lo env S i) fun _ => (ev O lo e env S).rs env fun w S => (toD lo w S).rs env fun x S => optRs (lstAt lo env S i) fun p => if p.2.length < LIM then .nx env (S.set p.1 (.lst (p.2 ++ [x]))) else .no
  | .ext i e, env, S => optRs (lstAt lo env S i) fun _ => (ev O lo e env S).rs env fun w S => optRs ((argOf w).bind asL) fun ys => optRs (lstAt lo env S i) fun p => if p.2.length + ys.length ≤ LIM then .nx env (S.set p.1 (.lst (p.2 ++ ys))) else .no
  | .ife c a b, env, S => ((ev O lo c env S).bind fun w S1 => (orNo (asB w) S1)).rs env fun k S => if k then exCs O fu lo a env S else exCs O fu lo b env S
  | .loop t it b, env, S => (evI O lo it env S).rs env fun p S1 =>
      (forGo (fun x env S => optRs (t.put x env) fun env => exCs O fu lo b env S) p.1 env (lockAll lo p.2 S1)).free lo S1 p.2
  | .whl c b, env, S => whGo (fun env S => (ev O lo c env S).bind fun w S1 => (orNo (asB w) S1)) (fun env S => exCs O fu lo b env S) fu env S
  | .ret e, env, S => (ev O lo e env S).rs env fun w S => .rt w S
  | .rais c, env, S => .ex c env S
  | .xpr e, env, S => (ev O lo e env S).rs env fun _ S => .nx env S
  | .tryF b i j Ls, env, S => (exCs O fu lo b env S).flag i j Ls
def exCs (O : Orc) (fu lo : Nat) : Cs → Env → Sto → Rs
  | .nil, env, S => .nx env S
  | .cons a b, env, S => (exC O fu lo a env S).then fun env S => exCs O fu lo b env S
end
/-- a def: how many parameters, how many names, the body -/
structure Df where
  np : Nat
  nl : Nat
  body : Cs
def outD (lo : Nat) : Rs → Cr
  | .nx _ _ => .d .none
  | .ex c _ _ => .ex c
  | .rt (.d x) _ => .d x
  | .rt (.r n) S => if lo ≤ n then (match S[n]? with
    | some (.lst xs) => .fresh xs
    | _ => .no) else .no
  | _ => .no
def runD (O : Orc) (fu : Nat) (d : Df) (ws : List Wd) (S : Sto) : Cr :=
  if ws.length = d.np then outD S.length (exCs O fu S.length d.body (ws.map some ++ List.replicate (d.nl - d.np) none) S) else .no
/-- the defs, the last first: each calls those behind it -/
def orc (fu : Nat) : List (String × Df) → Orc
  | [] => fun _ _ _ => .no
  | p :: r => fun f ws S => if f = p.1 then runD (orc fu r) fu p.2 ws S else orc fu r f ws S
end Rf
namespace Rf
open PySem PySem.Spec PyProof.Rows L2

abbrev Frag := PySem.W.Frag
abbrev Pr := Addr → Prop
/-- a list of the written part -/
def KL (K : Frag) (a : Addr) (xs : List V) : Prop :=
  ∃ (o : Obj) (its : Array Value) (n : Nat), K.lookup a = some o ∧ o.cls = .type "list" ∧ o.dict = none ∧ o.data = .seq its n ∧ its.size ≤ sizeLine ∧ Vals xs its.toList
/-- a list that is data: nothing will change it -/
def LR (K : Frag) (H : Hp) (M : Pr) (a : Addr) (xs : List V) : Prop := (Rd H a (.lst xs) ∧ ¬ M a) ∨ KL K a xs
theorem LR.sq {K : Frag} {H : Hp} {M : Pr} {a : Addr} {xs : List V} (h : LR K H M a xs) : SqL K H a xs := h.elim (fun z => .inl z.1) .inr
mutual
inductive Rp (K : Frag) (H : Hp) (M : Pr) : V → PyData → Prop
  | non : Rp K H M .non .none
  | bl (b : Bool) : Rp K H M (.bl b) (.bool b)
  | int (i : Int) : Rp K H M (.int i) (.int i)
  | str (x : Str) : Rp K H M (.str x) (.str x)
  | lst {a : Addr} {xs : List V} {ds : List PyData} : LR K H M a xs → RpA K H M xs ds → Rp K H M (.ref a) (.list ds)
  | tup {a : Addr} {xs : List V} {ds : List PyData} : SqT K H a xs → RpA K H M xs ds → Rp K H M (.ref a) (.tuple ds)
inductive RpA (K : Frag) (H : Hp) (M : Pr) : List V → List PyData → Prop
  | nil : RpA K H M [] []
  | cons {v : V} {vs : List V} {d : PyData} {ds : List PyData} : Rp K H M v d → RpA K H M vs ds → RpA K H M (v :: vs) (d :: ds)
end
section
variable {K : Frag} {H H' : Hp} {M M' : Pr}
mutual
theorem Rp.dp : ∀ (d : PyData) (v : V), Rp K H M v d → Dp K H v d
  | .none, _, h => by cases h; exact .non
  | .bool b, _, h => by cases h; exact .bl b
  | .int i, _, h => by cases h; exact .int i
  | .str x, _, h => by cases h; exact .str x
  | .list ds, _, h => by cases h with | lst l r => exact .lst l.sq (RpA.dp ds _ r)
  | .tuple ds, _, h => by cases h with | tup l r => exact .tup l (RpA.dp ds _ r)
  | .dict _, _, h => by cases h
theorem RpA.dp : ∀ (ds : List PyData) (vs : List V), RpA K H M vs ds → DpAll K H vs ds
  | [], _, h => by cases h; exact .nil
  | d :: ds, _, h => by cases h with | cons a b => exact .cons (Rp.dp d _ a) (RpA.dp ds _ b)
end
mutual
theorem Rp.mono (hl : ∀ a xs, LR K H M a xs → LR K H' M' a xs) (ht : ∀ a xs, SqT K H a xs → SqT K H' a xs) : ∀ (d : PyData) (v : V), Rp K H M v d → Rp K H' M' v d
  | .none, _, h => by cases h; exact .non
  | .bool b, _, h => by cases h; exact .bl b
  | .int i, _, h => by cases h; exact .int i
  | .str x, _, h => by cases h; exact .str x
  | .list ds, _, h => by cases h with | lst l r => exact .lst (hl _ _ l) (RpA.mono hl ht ds _ r)
  | .tuple ds, _, h => by cases h with | tup l r => exact .tup (ht _ _ l) (RpA.mono hl ht ds _ r)
  | .dict _, _, h => by cases h
theorem RpA.mono (hl : ∀ a xs, LR K H M a xs → LR K H' M' a xs) (ht : ∀ a xs, SqT K H a xs → SqT K H' a xs) : ∀ (ds : List PyData) (vs : List V), RpA K H M vs ds → RpA K H' M' vs ds
  | [], _, h => by cases h; exact .nil
  | d :: ds, _, h => by cases h with | cons a b => exact .cons (Rp.mono hl ht d _ a) (RpA.mono hl ht ds _ b)
end
theorem RpA.len : ∀ {vs : List V} {ds : List PyData}, RpA K H M vs ds → vs.length = ds.length
  | _, _, .nil => rfl
  | _, _, .cons _ b => by simp [RpA.len b]
theorem RpA.get : ∀ {vs : List V} {ds : List PyData} {i : Nat} {d : PyData}, RpA K H M vs ds → ds[i]? = some d → ∃ v, vs[i]? = some v ∧ Rp K H M v d
  | _, _, _, _, .nil, e => by simp at e
  | _, _, 0, _, .cons a b, e => by simp at e; subst e; exact ⟨_, rfl, a⟩
  | _, _, i + 1, d, .cons a b, e => by
    obtain ⟨v, h1, h2⟩ := RpA.get (i := i) (d := d) b (by simpa using e)
    exact ⟨v, by simpa using h1, h2⟩
theorem RpA.at : ∀ {vs : List V} {ds : List PyData} {i : Nat} {v : V}, RpA K H M vs ds → vs[i]? = some v → ∃ d, ds[i]? = some d ∧ Rp K H M v d
  | _, _, _, _, .nil, e => by simp at e
  | _, _, 0, _, .cons a b, e => by simp at e; subst e; exact ⟨_, rfl, a⟩
  | _, _, i + 1, v, .cons a b, e => by
    obtain ⟨d, h1, h2⟩ := RpA.at (i := i) (v := v) b (by simpa using e)
    exact ⟨d, by simpa using h1, h2⟩
theorem RpA.app : ∀ {vs ws : List V} {ds es : List PyData}, RpA K H M vs ds → RpA K H M ws es → RpA K H M (vs ++ ws) (ds ++ es)
  | _, _, _, _, .nil, h => h
  | _, _, _, _, .cons a b, h => .cons a (RpA.app b h)
theorem RpA.take : ∀ {vs : List V} {ds : List PyData} (n : Nat), RpA K H M vs ds → RpA K H M (vs.take n) (ds.take n)
  | _, _, 0, _ => .nil
  | _, _, _ + 1, .nil => .nil
  | _, _, n + 1, .cons a b => .cons a (RpA.take n b)
theorem RpA.drop : ∀ {vs : List V} {ds : List PyData} (n : Nat), RpA K H M vs ds → RpA K H M (vs.drop n) (ds.drop n)
  | _, _, 0, h => h
  | _, _, _ + 1, .nil => .nil
  | _, _, n + 1, .cons a b => RpA.drop n b
theorem RpA.rev : ∀ {vs : List V} {ds : List PyData}, RpA K H M vs ds → RpA K H M vs.reverse ds.reverse
  | _, _, .nil => .nil
  | _, _, .cons a b => by
    rw [List.reverse_cons, List.reverse_cons]
    exact RpA.app (RpA.rev b) (.cons a .nil)
theorem RpA.bools : ∀ {vs : List V} {ds : List PyData} {bs : List Bool}, RpA K H M vs ds → Rf.bools ds = some bs → vs = bs.map V.bl
  | _, _, _, .nil, e => by simp [Rf.bools] at e; subst e; rfl
  | _, _, bs, .cons (d := d) a b, e => by
    cases d <;> simp [Rf.bools] at e
    obtain ⟨cs, h1, rfl⟩ := e
    cases a
    rw [RpA.bools b h1]; rfl
theorem RpA.intsOf : ∀ {vs : List V} {ds : List PyData} {bs : List Int}, RpA K H M vs ds → Rf.intsOf ds = some bs → vs = bs.map V.int
  | _, _, _, .nil, e => by simp [Rf.intsOf] at e; subst e; rfl
  | _, _, bs, .cons (d := d) a b, e => by
    cases d <;> simp [Rf.intsOf] at e
    obtain ⟨cs, h1, rfl⟩ := e
    cases a
    rw [RpA.intsOf b h1]; rfl
theorem RpA.strsOf : ∀ {vs : List V} {ds : List PyData} {bs : List Str}, RpA K H M vs ds → Rf.strsOf ds = some bs → vs = bs.map V.str
  | _, _, _, .nil, e => by simp [Rf.strsOf] at e; subst e; rfl
  | _, _, bs, .cons (d := d) a b, e => by
    cases d <;> simp [Rf.strsOf] at e
    obtain ⟨cs, h1, rfl⟩ := e
    cases a
    rw [RpA.strsOf b h1]; rfl
end
theorem rd_same {H H' : Hp} {a : Addr} {u : HO} (h : Same H H') (r : Rd H a u) : Rd H' a u := by
  rcases r with r | ⟨o, r⟩
  · exact .inl (h _ _ r)
  · exact .inr ⟨o, h _ _ r⟩
theorem sqT_same {K : Frag} {H H' : Hp} (h : Same H H') : ∀ a xs, SqT K H a xs → SqT K H' a xs := fun a xs r => by
  rcases r with r | r
  · exact .inl (rd_same h r)
  · exact .inr r

/-! ### the state of a frame -/
/-- what may still be changed: the store's lists, and the lists that a comprehension makes just now -/
def mu (ρ : List Addr) (S : Sto) (Y : List Addr) : Pr := fun a => a ∈ Y ∨ ∃ (n : Nat) (o : So), ρ[n]? = some a ∧ S[n]? = some o ∧ o.mut = true
/-- the entries of a dict: key, where the key's tuple stands, value -/
abbrev En3 := NestedKey × Addr × V
def KN3 (xs : List En3) (ys : List (NestedKey × Addr × Value)) : Prop := Paired (fun (p : En3) (q : NestedKey × Addr × Value) => p.1 = q.1 ∧ p.2.1 = q.2.1 ∧ RelV p.2.2 q.2.2) xs ys
def DcO (w : World) (a : Addr) (xs : List En3) : HO := .ext fun h => xs.length ≤ sizeLine ∧ (a == sysModules) = false ∧ ∃ ys, KN3 xs ys ∧
  ∃ o es ep, h.get? a = some o ∧ o.ExactDict ∧ o.data = .dict es ep ∧ es.toList = ys.map (fun x => (⟨x.1.hash w, .ref x.2.1, x.2.2⟩ : DictEntry)) ∧ (ys.map (·.1)).Nodup
/-- entries as data -/
def DKV (K : Frag) (H : Hp) (M : Pr) (kvs : List (PyData × PyData)) (xs : List En3) : Prop :=
  Paired (fun (kv : PyData × PyData) (x : En3) => nkey kv.1 = some x.1 ∧ x.1.depth ≤ 8 ∧ Rp K H M (.ref x.2.1) kv.1 ∧ Rp K H M x.2.2 kv.2) kvs xs
/-- what stands for an entry of the store -/
structure SoOk (ω : World) (K : Frag) (H : Hp) (M : Pr) (a : Addr) (o : So) : Prop where
  lst : ∀ ds, o.list? = some ds → ∃ xs, H a = some (.lst xs) ∧ RpA K H M xs ds
  dct : ∀ kvs, o.dict? = some kvs → ∃ xs, H a = some (DcO ω a xs) ∧ DKV K H M kvs xs
theorem SoOk.ofL {ω : World} {K : Frag} {H : Hp} {M : Pr} {a : Addr} {o : So} {ds : List PyData} {xs : List V} (e : o.list? = some ds) (h : H a = some (.lst xs)) (r : RpA K H M xs ds) : SoOk ω K H M a o :=
  ⟨fun ds' e' => by rw [e] at e'; cases e'; exact ⟨xs, h, r⟩, fun kvs e' => by cases o <;> first | (simp [So.dict?] at e'; done) | (simp [So.list?] at e; done)⟩
theorem SoOk.alive {ω : World} {K : Frag} {H : Hp} {M : Pr} {a : Addr} {o : So} (h : SoOk ω K H M a o) : H a ≠ none := by
  cases o with
  | lst xs => obtain ⟨_, e, _⟩ := h.lst _ rfl; rw [e]; simp
  | lck xs => obtain ⟨_, e, _⟩ := h.lst _ rfl; rw [e]; simp
  | frz xs => obtain ⟨_, e, _⟩ := h.lst _ rfl; rw [e]; simp
  | dct kvs => obtain ⟨_, e, _⟩ := h.dct _ rfl; rw [e]; simp
  | dlk kvs => obtain ⟨_, e, _⟩ := h.dct _ rfl; rw [e]; simp
theorem SoOk.kind {ω : World} {K : Frag} {H : Hp} {M : Pr} {a : Addr} {o : So} (h : SoOk ω K H M a o) : (∃ xs, H a = some (.lst xs)) ∨ ∃ φ, H a = some (.ext φ) := by
  cases o with
  | lst xs => obtain ⟨_, e, _⟩ := h.lst _ rfl; exact .inl ⟨_, e⟩
  | lck xs => obtain ⟨_, e, _⟩ := h.lst _ rfl; exact .inl ⟨_, e⟩
  | frz xs => obtain ⟨_, e, _⟩ := h.lst _ rfl; exact .inl ⟨_, e⟩
  | dct kvs => obtain ⟨_, e, _⟩ := h.dct _ rfl; exact .inr ⟨_, e⟩
  | dlk kvs => obtain ⟨_, e, _⟩ := h.dct _ rfl; exact .inr ⟨_, e⟩
theorem DKV.mono {K : Frag} {H H' : Hp} {M M' : Pr} (hl : ∀ a xs, LR K H M a xs → LR K H' M' a xs) (ht : ∀ a xs, SqT K H a xs → SqT K H' a xs) {kvs : List (PyData × PyData)} {xs : List En3} (r : DKV K H M kvs xs) : DKV K H' M' kvs xs :=
  Paired.mapP r fun _ _ z => ⟨z.1, z.2.1, Rp.mono hl ht _ _ z.2.2.1, Rp.mono hl ht _ _ z.2.2.2⟩
theorem SoOk.mono {ω : World} {K : Frag} {H H' : Hp} {M M' : Pr} {a : Addr} {o : So} (hl : ∀ a xs, LR K H M a xs → LR K H' M' a xs) (ht : ∀ a xs, SqT K H a xs → SqT K H' a xs) (hH : ∀ u, H a = some u → H' a = some u) (h : SoOk ω K H M a o) : SoOk ω K H' M' a o :=
  ⟨fun ds e => let ⟨xs, q, r⟩ := h.lst ds e; ⟨xs, hH _ q, RpA.mono hl ht _ _ r⟩, fun kvs e => let ⟨xs, q, r⟩ := h.dct kvs e; ⟨xs, hH _ q, r.mono hl ht⟩⟩
theorem SoOk.same {ω : World} {K : Frag} {H : Hp} {M : Pr} {a : Addr} {o o' : So} (e1 : o'.list? = o.list?) (e2 : o'.dict? = o.dict?) (h : SoOk ω K H M a o) : SoOk ω K H M a o' :=
  ⟨fun ds e => h.lst ds (e1 ▸ e), fun kvs e => h.dct kvs (e2 ▸ e)⟩
structure Cf (ω : World) (K : Frag) (H : Hp) (ρ : List Addr) (S : Sto) (Y : List Addr) : Prop where
  len : ρ.length = S.length
  nd : ρ.Nodup
  alive : ∀ a ∈ Y, H a ≠ none
  sep : ∀ a ∈ ρ, a ∉ Y
  ent : ∀ (n : Nat) (a : Addr) (o : So), ρ[n]? = some a → S[n]? = some o → SoOk ω K H (mu ρ S Y) a o
theorem Cf.mu_alive {ω : World} {K : Frag} {H : Hp} {ρ : List Addr} {S : Sto} {Y : List Addr} (c : Cf ω K H ρ S Y) {a : Addr} (h : mu ρ S Y a) : H a ≠ none := by
  rcases h with h | ⟨n, o, h1, h2, _⟩
  · exact c.alive a h
  · exact (c.ent n a o h1 h2).alive
def Rw (K : Frag) (H : Hp) (ρ : List Addr) (M : Pr) (v : V) : Wd → Prop
  | .d x => Rp K H M v x
  | .r n => ∃ a, ρ[n]? = some a ∧ v = .ref a
inductive Rws (K : Frag) (H : Hp) (ρ : List Addr) (M : Pr) : List V → List Wd → Prop
  | nil : Rws K H ρ M [] []
  | cons {v : V} {w : Wd} {vs : List V} {ws : List Wd} : Rw K H ρ M v w → Rws K H ρ M vs ws → Rws K H ρ M (v :: vs) (w :: ws)
structure Er (K : Frag) (H : Hp) (ρ : List Addr) (M : Pr) (σ : L2.St) (env : Env) : Prop where
  len : σ.length = env.length
  at_ : ∀ (i : Nat) w, env[i]? = some (some w) → ∃ v, σ[i]? = some (some v) ∧ Rw K H ρ M v w

/-- what an expression may do: new objects, lists that become data -/
structure Ste (lo : Nat) (H : Hp) (S : Sto) (H' : Hp) (S' : Sto) : Prop where
  same : Same H H'
  len : S'.length = S.length
  frz : ∀ n : Nat, S'[n]? = S[n]? ∨ (lo ≤ n ∧ ∃ xs, S[n]? = some (.lst xs) ∧ S'[n]? = some (.frz xs))
section
variable {lo : Nat} {H H1 H2 : Hp} {S S1 S2 : Sto} {K : Frag} {ρ Y : List Addr}
theorem Ste.refl : Ste lo H S H S := ⟨Same.refl H, rfl, fun _ => .inl rfl⟩
theorem Ste.of (h : Same H H1) : Ste lo H S H1 S := ⟨h, rfl, fun _ => .inl rfl⟩
theorem Ste.trans (a : Ste lo H S H1 S1) (b : Ste lo H1 S1 H2 S2) : Ste lo H S H2 S2 := by
  refine ⟨a.same.trans b.same, b.len.trans a.len, fun n => ?_⟩
  rcases b.frz n with e | ⟨l, xs, e1, e2⟩
  · rw [e]; exact a.frz n
  · rcases a.frz n with e | ⟨l', ys, e3, e4⟩
    · exact .inr ⟨l, xs, by rw [← e]; exact e1, e2⟩
    · rw [e4] at e1; cases e1
theorem Ste.mu (a : Ste lo H S H1 S1) {b : Addr} (h : mu ρ S1 Y b) : mu ρ S Y b := by
  rcases h with h | ⟨n, o, h1, h2, h3⟩
  · exact .inl h
  · rcases a.frz n with e | ⟨_, xs, e1, e2⟩
    · exact .inr ⟨n, o, h1, by rw [← e]; exact h2, h3⟩
    · rw [e2] at h2; cases h2; cases h3
theorem Ste.lr (a : Ste lo H S H1 S1) : ∀ b xs, LR K H (Rf.mu ρ S Y) b xs → LR K H1 (Rf.mu ρ S1 Y) b xs := fun b xs h => by
  rcases h with ⟨h1, h2⟩ | h
  · exact .inl ⟨rd_same a.same h1, fun z => h2 (a.mu z)⟩
  · exact .inr h
theorem Ste.rp (a : Ste lo H S H1 S1) {v : V} {d : PyData} (h : Rp K H (Rf.mu ρ S Y) v d) : Rp K H1 (Rf.mu ρ S1 Y) v d := Rp.mono a.lr (sqT_same a.same) d v h
theorem Ste.rpa (a : Ste lo H S H1 S1) {v : List V} {d : List PyData} (h : RpA K H (Rf.mu ρ S Y) v d) : RpA K H1 (Rf.mu ρ S1 Y) v d := RpA.mono a.lr (sqT_same a.same) d v h
theorem Ste.rw' (a : Ste lo H S H1 S1) {v : V} {w : Wd} (h : Rw K H ρ (Rf.mu ρ S Y) v w) : Rw K H1 ρ (Rf.mu ρ S1 Y) v w := by
  cases w with
  | d x => exact a.rp h
  | r n => exact h
theorem Ste.rws (a : Ste lo H S H1 S1) : ∀ {v : List V} {w : List Wd}, Rws K H ρ (Rf.mu ρ S Y) v w → Rws K H1 ρ (Rf.mu ρ S1 Y) v w
  | _, _, .nil => .nil
  | _, _, .cons h t => .cons (a.rw' h) (Ste.rws a t)
theorem Ste.er (a : Ste lo H S H1 S1) {σ : L2.St} {env : Env} (h : Er K H ρ (Rf.mu ρ S Y) σ env) : Er K H1 ρ (Rf.mu ρ S1 Y) σ env :=
  ⟨h.len, fun i w e => let ⟨v, h1, h2⟩ := h.at_ i w e; ⟨v, h1, a.rw' h2⟩⟩
/-- new objects alone -/
theorem Cf.grow (c : Cf ω K H ρ S Y) (h : Same H H1) : Cf ω K H1 ρ S Y := by
  refine ⟨c.len, c.nd, fun a ha => ?_, c.sep, fun n a o h1 h2 => ?_⟩
  · cases e : H a with
    | none => exact absurd e (c.alive a ha)
    | some u => rw [h a u e]; simp
  · exact (c.ent n a o h1 h2).mono (Ste.of (lo := 0) h).lr (sqT_same h) fun u e => h _ _ e
theorem Rws.len {M : Pr} : ∀ {vs : List V} {ws : List Wd}, Rws K H ρ M vs ws → vs.length = ws.length
  | _, _, .nil => rfl
  | _, _, .cons _ t => by simp [Rws.len t]
end
/-- a value as it is seen: a list of the store, too -/
inductive Vw (K : Frag) (H : Hp) (M : Pr) : V → PyData → Prop
  | rp {v : V} {d : PyData} : Rp K H M v d → Vw K H M v d
  | lst {a : Addr} {xs : List V} {ds : List PyData} : H a = some (.lst xs) → RpA K H M xs ds → Vw K H M (.ref a) (.list ds)
inductive Vws (K : Frag) (H : Hp) (M : Pr) : List V → List PyData → Prop
  | nil : Vws K H M [] []
  | cons {v : V} {d : PyData} {vs : List V} {ds : List PyData} : Vw K H M v d → Vws K H M vs ds → Vws K H M (v :: vs) (d :: ds)
section
variable {lo : Nat} {H H1 H2 : Hp} {S S1 S2 : Sto} {K : Frag} {ρ Y : List Addr} {M : Pr}
theorem Vw.dp {v : V} {d : PyData} (h : Vw K H M v d) : Dp K H v d := by
  cases h with
  | rp h => exact Rp.dp _ _ h
  | lst e r => exact .lst (SqL.of e) (RpA.dp _ _ r)
theorem Vw.of (c : Cf ω K H ρ S Y) {v : V} {w : Wd} {d : PyData} (r : Rw K H ρ (mu ρ S Y) v w) (p : peek S w = some d) : Vw K H (mu ρ S Y) v d := by
  cases w with
  | d x => cases p; exact .rp r
  | r n =>
    obtain ⟨a, h1, rfl⟩ := r
    cases e : S[n]? with
    | none => simp [peek, e] at p
    | some o =>
      simp [peek, e] at p
      obtain ⟨ds, hl, rfl⟩ := p
      obtain ⟨xs, h2, h3⟩ := (c.ent n a o h1 e).lst ds hl
      exact .lst h2 h3
theorem Vws.of (c : Cf ω K H ρ S Y) : ∀ {vs : List V} {ws : List Wd} {ds : List PyData}, Rws K H ρ (mu ρ S Y) vs ws → peeks S ws = some ds → Vws K H (mu ρ S Y) vs ds
  | _, _, _, .nil, p => by cases p; exact .nil
  | _, _, ds, .cons (w := w) (ws := ws) r t, p => by
    cases e : peek S w with
    | none => simp [peeks, e] at p
    | some x =>
      cases e2 : peeks S ws with
      | none => simp [peeks, e, e2] at p
      | some xs =>
        simp [peeks, e, e2] at p
        subst p
        exact .cons (Vw.of c r e) (Vws.of c t e2)
theorem Vw.list {v : V} {ds : List PyData} (h : Vw K H M v (.list ds)) : ∃ a xs, v = .ref a ∧ SqL K H a xs ∧ RpA K H M xs ds := by
  cases h with
  | rp h => cases h with | lst l r => exact ⟨_, _, rfl, l.sq, r⟩
  | lst e r => exact ⟨_, _, rfl, SqL.of e, r⟩
theorem Vw.tuple {v : V} {ds : List PyData} (h : Vw K H M v (.tuple ds)) : ∃ a xs, v = .ref a ∧ SqT K H a xs ∧ RpA K H M xs ds := by
  cases h with
  | rp h => cases h with | tup l r => exact ⟨_, _, rfl, l, r⟩
theorem Vw.int {v : V} {i : Int} (h : Vw K H M v (.int i)) : v = .int i := by cases h with | rp h => cases h; rfl
theorem Vw.bool {v : V} {i : Bool} (h : Vw K H M v (.bool i)) : v = .bl i := by cases h with | rp h => cases h; rfl
theorem Vw.str {v : V} {i : Str} (h : Vw K H M v (.str i)) : v = .str i := by cases h with | rp h => cases h; rfl
theorem Vw.none {v : V} (h : Vw K H M v .none) : v = .non := by cases h with | rp h => cases h; rfl
theorem Rp.int' {v : V} {i : Int} (h : Rp K H M v (.int i)) : v = .int i := by cases h; rfl
theorem Rp.bool' {v : V} {i : Bool} (h : Rp K H M v (.bool i)) : v = .bl i := by cases h; rfl
theorem asI_of {v : V} {w : Wd} {i : Int} (h : Rw K H ρ M v w) (e : asI w = some i) : v = .int i := by
  cases w with
  | r n => cases e
  | d x => cases x <;> simp [asI] at e; subst e; exact Rp.int' h
theorem asB_of {v : V} {w : Wd} {i : Bool} (h : Rw K H ρ M v w) (e : asB w = some i) : v = .bl i := by
  cases w with
  | r n => cases e
  | d x => cases x <;> simp [asB] at e; subst e; exact Rp.bool' h
/-- a new tuple, a new list -/
theorem rp_newT (ha : ∀ a, M a → H a ≠ none) {p : Addr} {xs : List V} {ds : List PyData} (hp : H p = none) (r : RpA K H M xs ds) : Same H (upd H p (.tup xs)) ∧ Rp K (upd H p (.tup xs)) M (.ref p) (.tuple ds) := by
  have sm : Same H (upd H p (.tup xs)) := fun b o e => by rw [upd_ne (ne_of_none e hp)]; exact e
  refine ⟨sm, .tup (.inl (.inl upd_same)) (RpA.mono (fun a xs l => ?_) (sqT_same sm) _ _ r)⟩
  rcases l with ⟨l1, l2⟩ | l
  · exact .inl ⟨rd_same sm l1, l2⟩
  · exact .inr l
theorem rp_newL (ha : ∀ a, M a → H a ≠ none) {p : Addr} {xs : List V} {ds : List PyData} (hp : H p = none) (r : RpA K H M xs ds) : Same H (upd H p (.lst xs)) ∧ Rp K (upd H p (.lst xs)) M (.ref p) (.list ds) := by
  have sm : Same H (upd H p (.lst xs)) := fun b o e => by rw [upd_ne (ne_of_none e hp)]; exact e
  refine ⟨sm, .lst (.inl ⟨.inl upd_same, fun z => ha p z hp⟩) (RpA.mono (fun a xs l => ?_) (sqT_same sm) _ _ r)⟩
  rcases l with ⟨l1, l2⟩ | l
  · exact .inl ⟨rd_same sm l1, l2⟩
  · exact .inr l
end
end Rf
namespace Rf
open PySem PySem.Spec PyProof.Rows L2
/-! a list, whatever its slots are, times a number -/
theorem rl_int (x : Int) (tk : Tok) (ad : Addr) (vs : Array Value) (cnt : Nat) (dict : Option Addr) (sls : Array (Option Value)) :
    Meets (Builtin.«int.__rmul__» ⟨[.int x tk, .ref ad], []⟩) (fun _ R st => st.heap.get? ad = some ⟨.type "list", dict, .seq vs cnt, sls⟩ ∧ R (.ok (.ret Value.notImplemented)) st) :=
  .of_wp fun prog w A R st q => by
    obtain ⟨heap, gens, drawn, toks, os⟩ := st
    obtain ⟨hget, q⟩ := q
    wp_walk using wpAny_loadPart' hget
    exact ⟨_, rfl, q⟩
theorem rl_mul (ad : Addr) (vs : Array Value) (cnt : Nat) (dict : Option Addr) (sls : Array (Option Value)) (x : Int) (tk : Tok) (h1 : ¬(!Builtin.List.listFitsIndex x) = true) (h2 : ¬vs.size * x.toNat > (2 ^ 63 - 1) / 8) (h3 : ¬Builtin.List.listTooLong (vs.size * x.toNat) = true) :
    Meets (Builtin.«list.__mul__» ⟨[.ref ad, .int x tk], []⟩) (fun _ R st => st.heap.get? ad = some ⟨.type "list", dict, .seq vs cnt, sls⟩ ∧
      R (.ok (.ret (Value.ref st.heap.objs.size))) { st with heap := st.heap.push { cls := Value.type "list", data := Data.seq (List.foldl (fun a b => a ++ b) #[] (List.replicate (if vs.isEmpty = true then 0 else x.toNat) vs)) } }) :=
  .of_wp fun prog w A R st q => by
    obtain ⟨heap, gens, drawn, toks, os⟩ := st
    obtain ⟨hget, q⟩ := q
    have fits := PySem.AutoListH.joined_fits h3
    wp_walk using wpAny_loadPart' hget
    refine wpAny_ite_false (decide_eq_false (Nat.not_lt.mpr fits)) ?_
    wp_walk using wpAny_loadPart' hget
    exact ⟨_, rfl, q⟩
def rRepL (K : PySem.W.Frag) : R2 := fun x y H Q => ∃ ad k xs, x = .ref ad ∧ y = .int k ∧ SqL K H ad xs ∧ 0 ≤ k ∧ k ≤ 1000 ∧ xs.length ≤ 1000 ∧ ∀ p, H p = none → Q (.ref p) (upd H p (.lst (List.replicate k.toNat xs).flatten))
theorem op_repL {X : Cx} : OpR X (binaryOp .Mult) (rRepL X.K) := by
  intro pins st σ H x y v u Q I rx ry h
  obtain ⟨ad, k, xs, rfl, rfl, hL, h1, h2, hz, q⟩ := h
  cases rx
  obtain ⟨t, rfl⟩ := ry
  obtain ⟨its, r, ⟨⟨cls, dd, data, sl⟩, cnt, ho, hc, hd, hdat⟩, hs⟩ := I.list hL
  simp only at hc hd hdat
  subst hc hd hdat
  have hle : its.length = xs.length := r.length.symm
  have hm : its.toArray.size * k.toNat ≤ 1000 * 1000 := by
    rw [List.size_toArray, hle]
    exact Nat.mul_le_mul hz (by omega)
  have hlen : its.toArray.size * k.toNat ≤ sizeLine := by rw [sizeLine_eq]; omega
  have flen : (List.replicate k.toNat xs).flatten.length ≤ sizeLine := by
    rw [PyProof.Rows.lm_len_rep_flat, Nat.mul_comm]
    rw [List.size_toArray, hle] at hlen
    exact hlen
  have c1 : ¬ (!Builtin.List.listFitsIndex k) = true := by
    rw [fitsIndex_both (by omega) (by omega)]
    exact Bool.false_ne_true
  have c2 : ¬ its.toArray.size * k.toNat > (2 ^ 63 - 1) / 8 := by omega
  have c3 : ¬ Builtin.List.listTooLong (its.toArray.size * k.toNat) = true := by
    rw [notLongL hlen]
    exact Bool.false_ne_true
  have hnew : List.foldl (fun a b => a ++ b) #[] (List.replicate (if its.toArray.isEmpty = true then 0 else k.toNat) its.toArray) = (List.replicate k.toNat its).flatten.toArray := by
    rw [size_rep]
    cases its with
    | nil => simp
    | cons a b => rw [if_neg (by simp)]
  refine wpAny_binaryOp_repeat_ref (T := "list") (U := "int") (by decide) ⟨_, ho, rfl⟩ (fun s' => typeIs_int s' k t) noFill_list_mul F.fills_int_mul F.slot_int_rmul repeat_list F.slot_int_index.lookup
    (call_meets F.slot_int_rmul (typeIs_int st k t) F.entry_int_rmul (F.args_int_rmul_2 _ _) (rl_int k t ad its.toArray cnt _ sl)
      ⟨ho, rfl, ⟨_, ho, rfl⟩, call_meets F.slot_list_mul ⟨_, ho, rfl⟩ F.entry_list_mul (F.args_list_mul_2 _ _) (rl_mul ad its.toArray cnt _ sl k t c1 c2 c3) ⟨ho, ?_⟩⟩)
  rw [hnew]
  exact ⟨.ref _, _, I.lnew (t' := st.toks) (r.rep k.toNat) flen, rfl, q _ I.fresh⟩
end Rf
namespace Rf
open PySem PySem.Spec PyProof.Rows L2

/-- what is fixed while a frame runs: the written part, the module's names, the calls, where the frame's own lists begin, what is wanted of an exception -/
structure Fm where
  ω : World
  K : Frag
  mg : Str → Option Value
  O : Orc
  lo : Nat
  W : WX
def Po {α β : Type} (F : Fm) (ρ Y : List Addr) (σ : L2.St) (R : Hp → Sto → β → α → Prop) (H : Hp) (S : Sto) (r : Res α) (Q : β → Hp → Prop) : Prop :=
  match r with
  | .no => False
  | .ex c S' => ∀ H' C, Ste F.lo H S H' S' → Cf F.ω F.K H' ρ S' Y → F.mg (Str.ofString c) = some (.ref C) → F.W (.ref C) none σ H'
  | .ok a S' => ∀ b H', Ste F.lo H S H' S' → Cf F.ω F.K H' ρ S' Y → R H' S' b a → Q b H'
section
variable {F : Fm} {ρ Y : List Addr} {σ : L2.St} {α β γ δ : Type} {R : Hp → Sto → β → α → Prop} {R2 : Hp → Sto → δ → γ → Prop} {H H1 : Hp} {S S1 : Sto} {Q : δ → Hp → Prop} {Q' : β → Hp → Prop}
theorem Po.step {r : Res α} (h : Po F ρ Y σ R H S r Q') (st : Ste F.lo H S H1 S1) : Po F ρ Y σ R H1 S1 r Q' := by
  cases r with
  | no => exact h
  | ex c S' => exact fun H' C a b c => h H' C (st.trans a) b c
  | ok a S' => exact fun b H' x y z => h b H' (st.trans x) y z
theorem Po.bind {r : Res α} {f : α → Sto → Res γ} (h : Po F ρ Y σ R2 H S (r.bind f) Q)
    (k : ∀ a S1 b H1, r = .ok a S1 → Ste F.lo H S H1 S1 → Cf F.ω F.K H1 ρ S1 Y → R H1 S1 b a → Po F ρ Y σ R2 H1 S1 (f a S1) Q → Q' b H1) : Po F ρ Y σ R H S r Q' := by
  cases r with
  | no => exact h
  | ex c S' => exact h
  | ok a S' => exact fun b H' x y z => k a S' b H' rfl x y z (Po.step (r := f a S') h x)
theorem Po.mono {r : Res α} {Q2 : β → Hp → Prop} (h : Po F ρ Y σ R H S r Q') (k : ∀ b H', Q' b H' → Q2 b H') : Po F ρ Y σ R H S r Q2 := by
  cases r with
  | no => exact h
  | ex c S' => exact h
  | ok a S' => exact fun b H' x y z => k _ _ (h b H' x y z)
theorem Po.orNo {o : Option α} {f : α → Sto → Res γ} {S2 : Sto} (h : Po F ρ Y σ R2 H S ((orNo o S2).bind f) Q) : ∃ a, o = some a ∧ Po F ρ Y σ R2 H S (f a S2) Q := by
  cases o with
  | none => exact h.elim
  | some a => exact ⟨a, rfl, h⟩
end
abbrev RW (F : Fm) (ρ Y : List Addr) : Hp → Sto → V → Wd → Prop := fun H S v w => Rw F.K H ρ (mu ρ S Y) v w
abbrev RWs (F : Fm) (ρ Y : List Addr) : Hp → Sto → List V → List Wd → Prop := fun H S v w => Rws F.K H ρ (mu ρ S Y) v w
abbrev REq {α : Type} : Hp → Sto → α → α → Prop := fun _ _ a b => a = b
/-- a frame's state at the slots σ and the heap H -/
structure Fs (F : Fm) (σ : L2.St) (H : Hp) (env : Env) (ρ : List Addr) (S : Sto) (Y : List Addr) : Prop where
  cf : Cf F.ω F.K H ρ S Y
  er : Er F.K H ρ (mu ρ S Y) σ env
theorem Fs.step {F : Fm} {σ : L2.St} {H H1 : Hp} {env : Env} {ρ Y : List Addr} {S S1 : Sto} (f : Fs F σ H env ρ S Y) (st : Ste F.lo H S H1 S1) (c : Cf F.ω F.K H1 ρ S1 Y) : Fs F σ H1 env ρ S1 Y := ⟨c, st.er f.er⟩
def tE (F : Fm) (e : E) : TE := fun σ H Q => ∃ env ρ S Y, Fs F σ H env ρ S Y ∧ Po F ρ Y σ (RW F ρ Y) H S (ev F.O F.lo e env S) Q
def tEs (F : Fm) (e : Es) : TA := fun σ H Q => ∃ env ρ S Y, Fs F σ H env ρ S Y ∧ Po F ρ Y σ (RWs F ρ Y) H S (evs F.O F.lo e env S) Q
/-- a test -/
def tB' (F : Fm) (e : E) : TT := fun σ H Q => ∃ env ρ S Y, Fs F σ H env ρ S Y ∧ Po F ρ Y σ REq H S ((ev F.O F.lo e env S).bind fun w S1 => (orNo (asB w) S1)) Q

theorem PE_imp {X : Cx} {e : Expr} {t t' : TE} (h : PE X e t) (k : ∀ σ H Q, t' σ H Q → t σ H Q) : PE X e t' := ⟨fun pins s σ H Q I q => h.run pins s σ H Q I (k σ H Q q)⟩
theorem PT_imp {X : Cx} {e : Expr} {t t' : TT} (h : PT X e t) (k : ∀ σ H Q, t' σ H Q → t σ H Q) : PT X e t' := ⟨fun pins s σ H Q I q => h.run pins s σ H Q I (k σ H Q q)⟩
theorem PA_imp {X : Cx} {e : List Expr} {t t' : TA} (h : PA X e t) (k : ∀ σ H Q, t' σ H Q → t σ H Q) : PA X e t' := ⟨fun pos pins s σ H Q I q => h.run pos pins s σ H Q I (k σ H Q q)⟩
theorem PS_imp {X : Cx} {e : Stmt} {t t' : TS} (h : PS X e t) (k : ∀ D σ H, t' D σ H → t D σ H) : PS X e t' := ⟨fun pins s σ H D I q => h.run pins s σ H D I (k D σ H q)⟩
theorem PSs_imp {X : Cx} {e : List Stmt} {t t' : TS} (h : PSs X e t) (k : ∀ D σ H, t' D σ H → t D σ H) : PSs X e t' := ⟨fun pins s σ H D I q => h.run pins s σ H D I (k D σ H q)⟩

/-! ### operators by values -/
def bopOf : Bop → Operator
  | .add => .Add | .sub => .Sub | .mul => .Mult | .fdiv => .FloorDiv | .mod => .Mod | .pow => .Pow
def rB (K : Frag) (o : Bop) : R2 := fun x y H Q => ∃ (M : Pr) (d1 d2 z : PyData), (∀ a, M a → H a ≠ none) ∧ Vw K H M x d1 ∧ Vw K H M y d2 ∧ binD o d1 d2 = some z ∧ ∀ v H', Same H H' → Rp K H' M v z → Q v H'
section
variable {X : Cx}
theorem lim_eq : LIM = sizeLine := by decide
/-- a list and a list, wherever they stand -/
theorem cat_lists : OpR X (binaryOp .Add) (fun x y H Q => ∃ l b xs zs, x = .ref l ∧ y = .ref b ∧ SqL X.K H l xs ∧ SqL X.K H b zs ∧ xs.length + zs.length ≤ sizeLine ∧ ∀ p, H p = none → Q (.ref p) (upd H p (.lst (xs ++ zs)))) := by
  intro pins s σ H x y v u Q I rx ry ⟨l, b, xs, zs, e1, e2, h1, h2, hz, q⟩
  subst e1 e2
  cases rx
  cases ry
  obtain ⟨its, r1, ⟨o1, n1, g1, c1, _, d1⟩, _⟩ := I.list h1
  obtain ⟨its2, r2, ⟨o2, n2, g2, c2, _, d2⟩, _⟩ := I.list h2
  obtain ⟨k1, dd1, da1, s1⟩ := o1
  obtain ⟨k2, dd2, da2, s2⟩ := o2
  simp only at c1 d1 c2 d2
  subst c1 d1 c2 d2
  have l1 := r1.length
  have l2 := r2.length
  refine concat_meets ⟨_, g1, rfl⟩ ⟨_, g2, rfl⟩ noFill_list_add seq_list_add PySem.F.slot_list_add PySem.F.entry_list_add (PySem.F.args_list_add_2 _ _) (list_addW l b its.toArray its2.toArray n1 n2 dd1 dd2 s1 s2 (by simp only [List.size_toArray]; omega)) ⟨g1, g2, ?_⟩
  rw [show its.toArray ++ its2.toArray = (its ++ its2).toArray by simp]
  exact ⟨.ref _, _, I.lnew (t' := s.toks) (r1.append r2) (by rw [List.length_append]; exact hz), rfl, q _ I.fresh⟩
theorem rep_flat {K : Frag} {H : Hp} {M : Pr} {vs : List V} {ds : List PyData} (r : RpA K H M vs ds) : ∀ n : Nat, RpA K H M (List.replicate n vs).flatten (List.replicate n ds).flatten
  | 0 => .nil
  | n + 1 => by
    rw [List.replicate_succ, List.replicate_succ, List.flatten_cons, List.flatten_cons]
    exact RpA.app r (rep_flat r n)
theorem op_binD (o : Bop) : OpR X (binaryOp (bopOf o)) (rB X.K o) := by
  intro pins s σ H x y v u Q I rx ry ⟨M, d1, d2, z, ha, h1, h2, e, q⟩
  cases o with
  | add =>
    cases d1 <;> cases d2 <;> simp [binD] at e
    · subst e
      rw [h1.int] at rx; rw [h2.int] at ry
      exact op_add pins s σ H _ _ v u Q I rx ry ⟨_, _, rfl, rfl, q _ H (Same.refl H) (.int _)⟩
    · obtain ⟨hz, rfl⟩ := e
      rw [h1.str] at rx; rw [h2.str] at ry
      exact op_add_str pins s σ H _ _ v u Q I rx ry ⟨_, _, rfl, rfl, by rw [← lim_eq]; exact hz, q _ H (Same.refl H) (.str _)⟩
    · obtain ⟨hz, rfl⟩ := e
      obtain ⟨a, xs, rfl, q1, r1⟩ := h1.list
      obtain ⟨b, ys, rfl, q2, r2⟩ := h2.list
      refine cat_lists pins s σ H _ _ v u Q I rx ry ⟨_, _, xs, ys, rfl, rfl, q1, q2, by rw [← lim_eq, r1.len, r2.len]; exact hz, fun p hp => ?_⟩
      obtain ⟨sm, rp⟩ := rp_newL ha hp (r1.app r2)
      exact q _ _ sm rp
    · obtain ⟨hz, rfl⟩ := e
      obtain ⟨a, xs, rfl, q1, r1⟩ := h1.tuple
      obtain ⟨b, ys, rfl, q2, r2⟩ := h2.tuple
      refine op_catA pins s σ H _ _ v u Q I rx ry ⟨_, _, xs, ys, rfl, rfl, q1, q2, by rw [← lim_eq, r1.len, r2.len]; exact hz, fun e => ?_, fun _ e => ?_, fun _ _ p hp => ?_⟩
      · subst e
        cases r1
        exact q _ H (Same.refl H) (.tup q2 (by simpa using r2))
      · subst e
        cases r2
        exact q _ H (Same.refl H) (.tup q1 (by simpa using r1))
      · obtain ⟨sm, rp⟩ := rp_newT ha hp (r1.app r2)
        exact q _ _ sm rp
  | sub =>
    cases d1 <;> cases d2 <;> simp [binD] at e
    subst e
    rw [h1.int] at rx; rw [h2.int] at ry
    exact op_sub pins s σ H _ _ v u Q I rx ry ⟨_, _, rfl, rfl, q _ H (Same.refl H) (.int _)⟩
  | mul =>
    cases d1 <;> cases d2 <;> simp only [binD, reduceCtorEq] at e
    · rw [h1.int] at rx; rw [h2.int] at ry
      split at e
      · rename_i hc
        cases e
        exact op_mul pins s σ H _ _ v u Q I rx ry ⟨_, _, rfl, rfl, hc, q _ H (Same.refl H) (.int _)⟩
      · cases e
    · rw [h2.int] at ry
      split at e
      · rename_i hc
        cases e
        obtain ⟨c1, c2, c3⟩ := hc
        obtain ⟨a, xs, rfl, q1, r1⟩ := h1.list
        have hl := r1.len
        refine op_repL pins s σ H _ _ v u Q I rx ry ⟨a, _, xs, rfl, rfl, q1, c1, c2, by omega, fun p hp => ?_⟩
        obtain ⟨sm, rp⟩ := rp_newL ha hp (rep_flat r1 _)
        exact q _ _ sm rp
      · cases e
    · rw [h2.int] at ry
      split at e
      · rename_i hc
        cases e
        obtain ⟨c0, c1, c2, c3⟩ := hc
        obtain ⟨a, xs, rfl, q1, r1⟩ := h1.tuple
        have hl := r1.len
        refine op_repT pins s σ H _ _ v u Q I rx ry ⟨a, _, xs, rfl, rfl, q1, fun e => c0 (by rw [← hl, e]; rfl), c1, c2, by omega, fun p hp => ?_⟩
        obtain ⟨sm, rp⟩ := rp_newT ha hp (rep_flat r1 _)
        exact q _ _ sm rp
      · cases e
  | fdiv =>
    cases d1 <;> cases d2 <;> simp only [binD, reduceCtorEq] at e
    rw [h1.int] at rx; rw [h2.int] at ry
    split at e
    · rename_i hc
      cases e
      exact op_fdivW pins s σ H _ _ v u Q I rx ry ⟨_, _, rfl, rfl, wide_div (b := 64) hc.1 (by omega) (by decide) (by decide), q _ H (Same.refl H) (.int _)⟩
    · cases e
  | mod =>
    cases d1 <;> cases d2 <;> simp only [binD, reduceCtorEq] at e
    rw [h1.int] at rx; rw [h2.int] at ry
    split at e
    · rename_i hc
      cases e
      exact op_mod pins s σ H _ _ v u Q I rx ry ⟨_, _, rfl, rfl, hc, q _ H (Same.refl H) (.int _)⟩
    · cases e
  | pow =>
    cases d1 <;> cases d2 <;> simp only [binD, reduceCtorEq] at e
    rw [h1.int] at rx; rw [h2.int] at ry
    split at e
    · rename_i hc
      cases e
      exact op_pow pins s σ H _ _ v u Q I rx ry ⟨_, _, rfl, rfl, ⟨hc.1, by omega, hc.2.2⟩, q _ H (Same.refl H) (.int _)⟩
    · cases e
/-! comparisons -/
def copOf : Cop → CmpOp
  | .eq => .Eq | .ne => .NotEq | .lt => .Lt | .le => .LtE | .gt => .Gt | .ge => .GtE | .is => .Is | .isn => .IsNot | .isin => .In | .nin => .NotIn
def rCm (K : Frag) (o : Cop) : R2 := fun x y H Q => ∃ (M : Pr) (d1 d2 : PyData) (z : Bool), Vw K H M x d1 ∧ Vw K H M y d2 ∧ cmpD o d1 d2 = some z ∧ Q (.bl z) H
theorem rp_none {K : Frag} {H : Hp} {M : Pr} {v : V} {d : PyData} (h : Vw K H M v d) : v = .non ↔ d = .none := by
  constructor
  · intro e
    subst e
    cases h with | rp h => cases h; rfl
  · intro e
    subst e
    exact h.none
theorem op_cmpD (hu : X.A.units + 65 < cLine) (o : Cop) : OpR X (compareOp (copOf o)) (rCm X.K o) := by
  intro pins s σ H x y v u Q I rx ry ⟨M, d1, d2, z, h1, h2, e, q⟩
  have inT : ∀ (a : PyData) (b : List PyData), Vw X.K H M x a → Vw X.K H M y (.tuple b) → okD a = true → okD (.tuple b) = true →
      (Q (.bl (b.any fun z => PyData.eqv z a)) H → wpAny (model X.prog X.w) X.A (compareOp .In v u) (EP X pins σ Q) X.xe s) ∧
      (Q (.bl (!b.any fun z => PyData.eqv z a)) H → wpAny (model X.prog X.w) X.A (compareOp .NotIn v u) (EP X pins σ Q) X.xe s) := by
    intro a b ka kb sa sb
    obtain ⟨as, r1⟩ := Dp.reads I a x v ka.dp rx
    obtain ⟨bs, r2⟩ := Dp.reads I (.tuple b) y u kb.dp ry
    have hxs : PyData.canLayAll0 b = true := SeqAt.canLay_of_shaped sb
    have hroom : X.A.units + 1 + min (PyData.depthAll b) a.depth < cLine := room_in_shaped sa hu
    exact ⟨fun q => SeqAt.in_tuple_reads r2 r1 hxs (SeqAt.canLay_of_shaped sa) hroom ⟨.bl _, H, I, rfl, q⟩, fun q => SeqAt.notIn_tuple_reads r2 r1 hxs (SeqAt.canLay_of_shaped sa) hroom ⟨.bl _, H, I, rfl, q⟩⟩
  cases o with
  | eq =>
    simp only [cmpD] at e
    split at e
    · rename_i hc
      cases e
      have hc := Bool.and_eq_true_iff.mp hc
      exact op_eqD (by omega) pins s σ H _ _ v u Q I rx ry ⟨_, _, h1.dp, h2.dp, hc.1, hc.2, q⟩
    · cases e
  | ne =>
    simp only [cmpD] at e
    split at e
    · rename_i hc
      cases e
      have hc := Bool.and_eq_true_iff.mp hc
      exact op_neD (by omega) pins s σ H _ _ v u Q I rx ry ⟨_, _, h1.dp, h2.dp, hc.1, hc.2, q⟩
    · cases e
  | lt =>
    cases d1 <;> cases d2 <;> simp only [cmpD, reduceCtorEq] at e
    cases e
    rw [h1.int] at rx; rw [h2.int] at ry
    exact op_lt pins s σ H _ _ v u Q I rx ry ⟨_, _, rfl, rfl, q⟩
  | le =>
    cases d1 <;> cases d2 <;> simp only [cmpD, reduceCtorEq] at e
    cases e
    rw [h1.int] at rx; rw [h2.int] at ry
    exact op_le pins s σ H _ _ v u Q I rx ry ⟨_, _, rfl, rfl, q⟩
  | gt =>
    cases d1 <;> cases d2 <;> simp only [cmpD, reduceCtorEq] at e
    cases e
    rw [h1.int] at rx; rw [h2.int] at ry
    exact op_gt pins s σ H _ _ v u Q I rx ry ⟨_, _, rfl, rfl, q⟩
  | ge =>
    cases d1 <;> cases d2 <;> simp only [cmpD, reduceCtorEq] at e
    cases e
    rw [h1.int] at rx; rw [h2.int] at ry
    exact op_ge pins s σ H _ _ v u Q I rx ry ⟨_, _, rfl, rfl, q⟩
  | is =>
    cases d2 with
    | none =>
      refine op_isN pins s σ H _ _ v u Q I rx ry ⟨h2.none, ?_⟩
      have : decide (x = V.non) = z := by
        have k := rp_none h1
        cases d1 <;> simp [cmpD, isOf] at e <;> subst e <;> simp [k]
      rw [this]; exact q
    | bool b =>
      cases d1 <;> simp [cmpD, isOf] at e
      subst e
      rw [h1.bool] at rx; rw [h2.bool] at ry
      exact op_isBl pins s σ H _ _ v u Q I rx ry ⟨_, _, rfl, rfl, q⟩
    | _ => cases d1 <;> simp [cmpD, isOf] at e
  | isn =>
    cases d2 with
    | none =>
      refine op_notN pins s σ H _ _ v u Q I rx ry ⟨h2.none, ?_⟩
      have : (!decide (x = V.non)) = z := by
        have k := rp_none h1
        cases d1 <;> simp [cmpD, isOf] at e <;> subst e <;> simp [k]
      rw [this]; exact q
    | bool b =>
      cases d1 <;> simp only [cmpD, isOf, reduceCtorEq, Option.map_none, Option.map_some] at e
      cases e
      rw [h1.bool] at rx; rw [h2.bool] at ry
      exact op_notBl pins s σ H _ _ v u Q I rx ry ⟨_, _, rfl, rfl, q⟩
    | _ => cases d1 <;> simp [cmpD, isOf] at e
  | isin =>
    cases d2 with
    | str b =>
      cases d1 <;> simp [cmpD] at e
      subst e
      rw [h1.str] at rx; rw [h2.str] at ry
      exact op_in_str pins s σ H _ _ v u Q I rx ry ⟨_, _, rfl, rfl, q⟩
    | list b =>
      have e : (if (okD d1 && okD (.list b)) = true then some (b.any fun z => PyData.eqv z d1) else none) = some z := by cases d1 <;> exact e
      split at e
      · rename_i hc
        cases e
        have hc := Bool.and_eq_true_iff.mp hc
        exact op_inD hu pins s σ H _ _ v u Q I rx ry ⟨_, _, h1.dp, h2.dp, hc.1, hc.2, q⟩
      · cases e
    | tuple b =>
      have e : (if (okD d1 && okD (.tuple b)) = true then some (b.any fun z => PyData.eqv z d1) else none) = some z := by cases d1 <;> exact e
      split at e
      · rename_i hc
        cases e
        have hc := Bool.and_eq_true_iff.mp hc
        exact (inT d1 b h1 h2 hc.1 hc.2).1 q
      · cases e
    | _ => cases d1 <;> simp [cmpD] at e
  | nin =>
    cases d2 with
    | str b =>
      cases d1 <;> simp only [cmpD, reduceCtorEq] at e
      cases e
      rw [h1.str] at rx; rw [h2.str] at ry
      exact L2.op_notIn_str pins s σ H _ _ v u Q I rx ry ⟨_, _, rfl, rfl, q⟩
    | list b =>
      have e : (if (okD d1 && okD (.list b)) = true then some (!b.any fun z => PyData.eqv z d1) else none) = some z := by cases d1 <;> exact e
      split at e
      · rename_i hc
        cases e
        have hc := Bool.and_eq_true_iff.mp hc
        exact op_notInD hu pins s σ H _ _ v u Q I rx ry ⟨_, _, h1.dp, h2.dp, hc.1, hc.2, q⟩
      · cases e
    | tuple b =>
      have e : (if (okD d1 && okD (.tuple b)) = true then some (!b.any fun z => PyData.eqv z d1) else none) = some z := by cases d1 <;> exact e
      split at e
      · rename_i hc
        cases e
        have hc := Bool.and_eq_true_iff.mp hc
        exact (inT d1 b h1 h2 hc.1 hc.2).2 q
      · cases e
    | _ => cases d1 <;> simp [cmpD] at e
/-! subscripts, slices -/
def rIxD (K : Frag) : R2 := fun x y H Q => ∃ (M : Pr) (d1 d2 z : PyData), Vw K H M x d1 ∧ Vw K H M y d2 ∧ idxD d1 d2 = some z ∧ ∀ v, Rp K H M v z → Q v H
theorem ixAt_eq (n : Nat) (i : Int) : ixAt n i = ixN n i := rfl
theorem ix_D : IxR X (rIxD X.K) := by
  intro value slice pins s σ H x y v u Q I rx ry ⟨M, d1, d2, z, h1, h2, e, q⟩ hs
  cases d1 <;> cases d2 <;> simp only [idxD, reduceCtorEq] at e
  case str.int a i =>
    split at e
    · rename_i hz
      obtain ⟨j, e1, e2⟩ := Option.bind_eq_some_iff.mp e
      obtain ⟨c, e3, rfl⟩ := Option.map_eq_some_iff.mp e2
      refine ix_str value slice pins s σ H _ _ v u Q I rx ry ⟨a, i, c, h1.str, h2.int, by rw [← lim_eq]; exact hz, ?_, q _ (.str _)⟩ hs
      show (ixN a.cps.toList.length i).bind _ = _
      rw [Array.length_toList, ← ixAt_eq]
      rw [show ixAt a.cps.size i = some j from e1]
      show a.cps.toList[j]? = some c
      rw [Array.getElem?_toList]
      exact e3
    · cases e
  case list.int ds i =>
    obtain ⟨j, e1, e2⟩ := Option.bind_eq_some_iff.mp e
    obtain ⟨a, xs, rfl, q1, r1⟩ := h1.list
    obtain ⟨v', e3, r⟩ := r1.get e2
    refine ix_list value slice pins s σ H _ _ v u Q I rx ry ⟨a, xs, i, v', rfl, h2.int, q1, ?_, q _ r⟩ hs
    show (ixN xs.length i).bind _ = _
    rw [r1.len, ← ixAt_eq, e1]
    exact e3
  case tuple.int ds i =>
    obtain ⟨j, e1, e2⟩ := Option.bind_eq_some_iff.mp e
    obtain ⟨a, xs, rfl, q1, r1⟩ := h1.tuple
    obtain ⟨v', e3, r⟩ := r1.get e2
    refine ix_tup value slice pins s σ H _ _ v u Q I rx ry ⟨a, xs, i, v', rfl, h2.int, q1, ?_, q _ r⟩ hs
    show (ixN xs.length i).bind _ = _
    rw [r1.len, ← ixAt_eq, e1]
    exact e3
theorem RpA.cut {K : Frag} {H : Hp} {M : Pr} {xs : List V} {ds : List PyData} (r : RpA K H M xs ds) (lo hi : Option Int) : RpA K H M (cutV xs lo hi) (cutL ds lo hi) := by
  have e : ∀ n d o, clipI n d o = HT.sIx n d o := fun n d o => by
    cases o with
    | none => rfl
    | some v =>
      show (if v < 0 then max (v + (n : Int)) 0 else min v (n : Int)).toNat = if v < 0 then (v + (n : Int)).toNat else min v.toNat n
      split <;> omega
  unfold cutV cutL
  rw [e, e, r.len]
  exact (r.drop _).take _
def rSlD (K : Frag) : V → Option Int → Option Int → Hp → VK → Prop := fun x lo hi H Q => ∃ (M : Pr) (d z : PyData), (∀ a, M a → H a ≠ none) ∧ Vw K H M x d ∧ sliD d lo hi = some z ∧ ∀ v H', Same H H' → Rp K H' M v z → Q v H'
theorem sl_D : SlR X (rSlD X.K) := by
  intro pins s σ H x v vl vu lo hi sl Q I rx hs pl pu ⟨M, d, z, ha, h1, e, q⟩
  cases d <;> simp only [sliD, reduceCtorEq] at e
  case list ds =>
    cases e
    obtain ⟨a, xs, rfl, q1, r1⟩ := h1.list
    refine sl_list pins s σ H _ v vl vu lo hi sl Q I rx hs pl pu ⟨a, xs, rfl, q1, fun p hp => ?_⟩
    obtain ⟨sm, rp⟩ := rp_newL ha hp (r1.cut lo hi)
    exact q _ _ sm rp
  case tuple ds =>
    cases e
    obtain ⟨a, xs, rfl, q1, r1⟩ := h1.tuple
    refine sl_tupA pins s σ H _ v vl vu lo hi sl Q I rx hs pl pu ⟨a, xs, rfl, q1, fun ⟨e1, e2⟩ => ?_, fun _ p hp => ?_⟩
    · refine q _ H (Same.refl H) (.tup q1 ?_)
      have e3 := r1.cut lo hi
      have e4 : cutV xs lo hi = xs := by
        unfold cutV
        rw [e1, e2]
        simp
      rwa [e4] at e3
    · obtain ⟨sm, rp⟩ := rp_newT ha hp (r1.cut lo hi)
      exact q _ _ sm rp
end
end Rf
namespace Rf
open PySem PySem.Spec PyProof.Rows L2

/-! ### built-in functions by values -/
def biV : Bi → Value
  | .len => .builtin "len" | .all => .builtin "all" | .any => .builtin "any" | .max => .builtin "max" | .min => .builtin "min" | .sum => .builtin "sum"
  | .tuple => .type "tuple" | .list => .type "list" | .int => .type "int"
def rBi (K : Frag) (f : Bi) : List V → Hp → VK → Prop := fun xs H Q => ∃ (M : Pr) (ds : List PyData) (z : PyData), (∀ a, M a → H a ≠ none) ∧ Vws K H M xs ds ∧ biD f ds = some z ∧ ∀ v H', Same H H' → Rp K H' M v z → Q v H'
section
variable {K : Frag} {H : Hp} {M : Pr}
theorem Vws.one {xs : List V} {d : PyData} (h : Vws K H M xs [d]) : ∃ x, xs = [x] ∧ Vw K H M x d := by
  cases h with | cons a b => cases b; exact ⟨_, rfl, a⟩
theorem Vws.two {xs : List V} {d e : PyData} (h : Vws K H M xs [d, e]) : ∃ x y, xs = [x, y] ∧ Vw K H M x d ∧ Vw K H M y e := by
  cases h with | cons a b => cases b with | cons c d => cases d; exact ⟨_, _, rfl, a, c⟩
end
theorem minL_spec : ∀ (a : Int) (r : List Int), minL a r ∈ a :: r ∧ ∀ y ∈ a :: r, minL a r ≤ y
  | a, [] => ⟨by simp [minL], fun y hy => by simp at hy; subst hy; simp [minL]⟩
  | a, b :: r => by
    have hm : ∃ c, minL a (b :: r) = minL c r ∧ (c = a ∨ c = b) ∧ c ≤ a ∧ c ≤ b := by
      refine ⟨if b < a then b else a, rfl, ?_, ?_, ?_⟩ <;> split <;> first | exact .inr rfl | exact .inl rfl | omega
    obtain ⟨c, e, h0, ha, hb⟩ := hm
    obtain ⟨h1, h2⟩ := minL_spec c r
    have h3 := h2 c (by simp)
    rw [e]
    refine ⟨?_, fun y hy => ?_⟩
    · rcases List.mem_cons.mp h1 with e | e
      · rw [e]; rcases h0 with z | z <;> simp [z]
      · simp [e]
    · rcases List.mem_cons.mp hy with e | e
      · omega
      · rcases List.mem_cons.mp e with e | e
        · omega
        · exact h2 y (by simp [e])
theorem maxL_spec : ∀ (a : Int) (r : List Int), maxL a r ∈ a :: r ∧ ∀ y ∈ a :: r, y ≤ maxL a r
  | a, [] => ⟨by simp [maxL], fun y hy => by simp at hy; subst hy; simp [maxL]⟩
  | a, b :: r => by
    have hm : ∃ c, maxL a (b :: r) = maxL c r ∧ (c = a ∨ c = b) ∧ a ≤ c ∧ b ≤ c := by
      refine ⟨if a < b then b else a, rfl, ?_, ?_, ?_⟩ <;> split <;> first | exact .inr rfl | exact .inl rfl | omega
    obtain ⟨c, e, h0, ha, hb⟩ := hm
    obtain ⟨h1, h2⟩ := maxL_spec c r
    have h3 := h2 c (by simp)
    rw [e]
    refine ⟨?_, fun y hy => ?_⟩
    · rcases List.mem_cons.mp h1 with e | e
      · rw [e]; rcases h0 with z | z <;> simp [z]
      · simp [e]
    · rcases List.mem_cons.mp hy with e | e
      · omega
      · rcases List.mem_cons.mp e with e | e
        · omega
        · exact h2 y (by simp [e])
section
variable {X : Cx}
theorem cr_bi (hc : X.calm = true) (f : Bi) : CallR X (biV f) (rBi X.K f) := by
  intro pins s σ H xs us Q I r ⟨M, ds, z, ha, hv, e, q⟩
  have qi : ∀ v : V, Rp X.K H M v z → Q v H := fun v rp => q v H (Same.refl H) rp
  cases f with
  | len =>
    match ds, e with
    | [.list ys], e =>
      cases e
      obtain ⟨x, rfl, h⟩ := hv.one
      obtain ⟨a, vs, rfl, sq, rr⟩ := h.list
      exact call_len pins s σ H _ us Q I r ⟨_, vs.length, rfl, .inl ⟨vs, sq, rfl⟩, by rw [rr.len]; exact qi _ (.int _)⟩
    | [.tuple ys], e =>
      cases e
      obtain ⟨x, rfl, h⟩ := hv.one
      obtain ⟨a, vs, rfl, sq, rr⟩ := h.tuple
      exact call_len pins s σ H _ us Q I r ⟨_, vs.length, rfl, .inr ⟨vs, sq, rfl⟩, by rw [rr.len]; exact qi _ (.int _)⟩
    | [.str y], e =>
      simp only [biD] at e
      split at e
      · rename_i hz
        cases e
        obtain ⟨x, rfl, h⟩ := hv.one
        exact call_len pins s σ H _ us Q I r ⟨_, y.length, rfl, by rw [h.str]; exact ⟨by rw [← lim_eq]; exact hz, rfl⟩, qi _ (.int _)⟩
      · cases e
    | [.none], e => cases e
    | [.bool _], e => cases e
    | [.int _], e => cases e
    | [.dict _], e => cases e
    | [], e => cases e
    | _ :: _ :: _, e => simp [biD] at e
  | all =>
    match ds, e with
    | [.list ys], e =>
      obtain ⟨bs, e1, rfl⟩ := Option.map_eq_some_iff.mp e
      obtain ⟨x, rfl, h⟩ := hv.one
      obtain ⟨a, vs, rfl, sq, rr⟩ := h.list
      have e2 := rr.bools e1
      subst e2
      exact cr_all hc pins s σ H _ us Q I r ⟨a, bs, rfl, sq, qi _ (.bl _)⟩
    | [.tuple _], e => cases e
    | [.str _], e => cases e
    | [.none], e => cases e
    | [.bool _], e => cases e
    | [.int _], e => cases e
    | [.dict _], e => cases e
    | [], e => cases e
    | _ :: _ :: _, e => simp [biD] at e
  | any =>
    match ds, e with
    | [.list ys], e =>
      obtain ⟨bs, e1, rfl⟩ := Option.map_eq_some_iff.mp e
      obtain ⟨x, rfl, h⟩ := hv.one
      obtain ⟨a, vs, rfl, sq, rr⟩ := h.list
      have e2 := rr.bools e1
      subst e2
      exact cr_any hc pins s σ H _ us Q I r ⟨a, bs, rfl, sq, qi _ (.bl _)⟩
    | [.tuple _], e => cases e
    | [.str _], e => cases e
    | [.none], e => cases e
    | [.bool _], e => cases e
    | [.int _], e => cases e
    | [.dict _], e => cases e
    | [], e => cases e
    | _ :: _ :: _, e => simp [biD] at e
  | tuple =>
    match ds, e with
    | [.list ys], e =>
      cases e
      obtain ⟨x, rfl, h⟩ := hv.one
      obtain ⟨a, vs, rfl, sq, rr⟩ := h.list
      refine call_tuple_of pins s σ H _ us Q I r ⟨a, vs, rfl, .inl ⟨sq, fun p hp => ?_⟩⟩
      obtain ⟨sm, rp⟩ := rp_newT ha hp rr
      exact q _ _ sm rp
    | [.tuple ys], e =>
      cases e
      obtain ⟨x, rfl, h⟩ := hv.one
      obtain ⟨a, vs, rfl, sq, rr⟩ := h.tuple
      exact call_tuple_of pins s σ H _ us Q I r ⟨a, vs, rfl, .inr ⟨sq, qi _ (.tup sq rr)⟩⟩
    | [.str _], e => cases e
    | [.none], e => cases e
    | [.bool _], e => cases e
    | [.int _], e => cases e
    | [.dict _], e => cases e
    | [], e => cases e
    | _ :: _ :: _, e => simp [biD] at e
  | list =>
    match ds, e with
    | [.list ys], e =>
      cases e
      obtain ⟨x, rfl, h⟩ := hv.one
      obtain ⟨a, vs, rfl, sq, rr⟩ := h.list
      refine call_list_of pins s σ H _ us Q I r ⟨a, vs, rfl, .inl sq, fun p hp => ?_⟩
      obtain ⟨sm, rp⟩ := rp_newL ha hp rr
      exact q _ _ sm rp
    | [.tuple ys], e =>
      cases e
      obtain ⟨x, rfl, h⟩ := hv.one
      obtain ⟨a, vs, rfl, sq, rr⟩ := h.tuple
      refine call_list_of pins s σ H _ us Q I r ⟨a, vs, rfl, .inr sq, fun p hp => ?_⟩
      obtain ⟨sm, rp⟩ := rp_newL ha hp rr
      exact q _ _ sm rp
    | [.str _], e => cases e
    | [.none], e => cases e
    | [.bool _], e => cases e
    | [.int _], e => cases e
    | [.dict _], e => cases e
    | [], e => cases e
    | _ :: _ :: _, e => simp [biD] at e
  | int =>
    match ds, e with
    | [.int i], e =>
      cases e
      obtain ⟨x, rfl, h⟩ := hv.one
      rw [h.int] at r
      exact call_int1 pins s σ H _ us Q I r (.inl ⟨i, rfl, qi _ (.int _)⟩)
    | [.bool b], e =>
      cases e
      obtain ⟨x, rfl, h⟩ := hv.one
      rw [h.bool] at r
      exact call_int1 pins s σ H _ us Q I r (.inr ⟨b, rfl, qi _ (.int _)⟩)
    | [.str _], e => cases e
    | [.none], e => cases e
    | [.list _], e => cases e
    | [.tuple _], e => cases e
    | [.dict _], e => cases e
    | [], e => cases e
    | _ :: _ :: _, e => simp [biD] at e
  | sum =>
    match ds, e with
    | [.list ys], e =>
      obtain ⟨bs, e1, rfl⟩ := Option.map_eq_some_iff.mp e
      obtain ⟨x, rfl, h⟩ := hv.one
      obtain ⟨a, vs, rfl, sq, rr⟩ := h.list
      have e2 := rr.intsOf e1
      subst e2
      exact cr_sum hc pins s σ H _ us Q I r ⟨a, bs, rfl, sq, qi _ (.int _)⟩
    | [.tuple _], e => cases e
    | [.str _], e => cases e
    | [.none], e => cases e
    | [.bool _], e => cases e
    | [.int _], e => cases e
    | [.dict _], e => cases e
    | [], e => cases e
    | _ :: _ :: _, e => simp [biD] at e
  | max =>
    match ds, e with
    | [.list ys], e =>
      obtain ⟨bs, e1, e2⟩ := Option.bind_eq_some_iff.mp e
      obtain ⟨x, rfl, h⟩ := hv.one
      obtain ⟨a, vs, rfl, sq, rr⟩ := h.list
      have e3 := rr.intsOf e1
      subst e3
      cases bs with
      | nil => cases e2
      | cons b bs =>
        cases e2
        refine cr_max hc pins s σ H _ us Q I r ⟨a, b :: bs, rfl, sq, by simp, fun m h1 h2 => ?_⟩
        obtain ⟨h3, h4⟩ := maxL_spec b bs
        have e5 : m = maxL b bs := Int.le_antisymm (h4 m h1) (h2 _ h3)
        rw [e5]
        exact qi _ (.int _)
    | [.tuple _], e => cases e
    | [.str _], e => cases e
    | [.none], e => cases e
    | [.bool _], e => cases e
    | [.int _], e => cases e
    | [.dict _], e => cases e
    | [], e => cases e
    | [a, b], e =>
      cases a <;> cases b <;> first
        | (exfalso; simp [biD] at e; done)
        | (cases e
           obtain ⟨x, y, rfl, h, h'⟩ := hv.two
           rw [h.int, h'.int] at r
           exact call_max2 hc pins s σ H _ us Q I r ⟨_, _, rfl, qi _ (.int _)⟩)
    | _ :: _ :: _ :: _, e => simp [biD] at e
  | min =>
    match ds, e with
    | [.list ys], e =>
      obtain ⟨bs, e1, e2⟩ := Option.bind_eq_some_iff.mp e
      obtain ⟨x, rfl, h⟩ := hv.one
      obtain ⟨a, vs, rfl, sq, rr⟩ := h.list
      have e3 := rr.intsOf e1
      subst e3
      cases bs with
      | nil => cases e2
      | cons b bs =>
        cases e2
        refine cr_min hc pins s σ H _ us Q I r ⟨a, b :: bs, rfl, sq, by simp, fun m h1 h2 => ?_⟩
        obtain ⟨h3, h4⟩ := minL_spec b bs
        have e5 : m = minL b bs := Int.le_antisymm (h2 _ h3) (h4 m h1)
        rw [e5]
        exact qi _ (.int _)
    | [.tuple _], e => cases e
    | [.str _], e => cases e
    | [.none], e => cases e
    | [.bool _], e => cases e
    | [.int _], e => cases e
    | [.dict _], e => cases e
    | [], e => cases e
    | [a, b], e =>
      cases a <;> cases b <;> first
        | (exfalso; simp [biD] at e; done)
        | (cases e
           obtain ⟨x, y, rfl, h, h'⟩ := hv.two
           rw [h.int, h'.int] at r
           exact call_min2 hc pins s σ H _ us Q I r ⟨_, _, rfl, qi _ (.int _)⟩)
    | _ :: _ :: _ :: _, e => simp [biD] at e
/-! isinstance -/
def tyN : Ty → String
  | .bool => "bool" | .int => "int" | .str => "str" | .tuple => "tuple" | .list => "list"
def tyOfD : PyData → String
  | .none => "NoneType" | .bool _ => "bool" | .int _ => "int" | .str _ => "str" | .list _ => "list" | .tuple _ => "tuple" | .dict _ => "dict"
theorem tyx {K : Frag} {H : Hp} {M : Pr} {v : V} {d : PyData} (h : Vw K H M v d) : TyX K H v (.type (tyOfD d)) := by
  cases h with
  | lst e r => exact .base (.lst e)
  | rp h =>
    cases h with
    | non => exact .base .non
    | bl b => exact .base (.bl b)
    | int i => exact .base (.int i)
    | str x => exact .base (.str x)
    | lst l r =>
      rcases l with ⟨l | ⟨o, l⟩, _⟩ | ⟨o, its, n, l, c, _⟩
      · exact .base (.lst l)
      · exact .base (.frz l)
      · exact .kList l c
    | tup l r =>
      rcases l with (l | ⟨o, l⟩) | ⟨o, its, n, l, c, _⟩
      · exact .base (.tup l)
      · exact .fTuple l
      · exact .kTuple l c
theorem kit_D (t : Ty) (d : PyData) (hd : ∀ x, d ≠ .dict x) : kitB (tyOfD d) (tyN t) = some (isiD t d) := by
  cases t <;> cases d <;> first
    | exact absurd rfl (hd _)
    | exact (by decide +kernel : kitB "NoneType" "bool" = some false)
    | exact (by decide +kernel : kitB "NoneType" "int" = some false)
    | exact (by decide +kernel : kitB "NoneType" "str" = some false)
    | exact (by decide +kernel : kitB "NoneType" "tuple" = some false)
    | exact (by decide +kernel : kitB "NoneType" "list" = some false)
    | exact (by decide +kernel : kitB "bool" "bool" = some true)
    | exact (by decide +kernel : kitB "bool" "int" = some true)
    | exact (by decide +kernel : kitB "bool" "str" = some false)
    | exact (by decide +kernel : kitB "bool" "tuple" = some false)
    | exact (by decide +kernel : kitB "bool" "list" = some false)
    | exact (by decide +kernel : kitB "int" "bool" = some false)
    | exact (by decide +kernel : kitB "int" "int" = some true)
    | exact (by decide +kernel : kitB "int" "str" = some false)
    | exact (by decide +kernel : kitB "int" "tuple" = some false)
    | exact (by decide +kernel : kitB "int" "list" = some false)
    | exact (by decide +kernel : kitB "str" "bool" = some false)
    | exact (by decide +kernel : kitB "str" "int" = some false)
    | exact (by decide +kernel : kitB "str" "str" = some true)
    | exact (by decide +kernel : kitB "str" "tuple" = some false)
    | exact (by decide +kernel : kitB "str" "list" = some false)
    | exact (by decide +kernel : kitB "tuple" "bool" = some false)
    | exact (by decide +kernel : kitB "tuple" "int" = some false)
    | exact (by decide +kernel : kitB "tuple" "str" = some false)
    | exact (by decide +kernel : kitB "tuple" "tuple" = some true)
    | exact (by decide +kernel : kitB "tuple" "list" = some false)
    | exact (by decide +kernel : kitB "list" "bool" = some false)
    | exact (by decide +kernel : kitB "list" "int" = some false)
    | exact (by decide +kernel : kitB "list" "str" = some false)
    | exact (by decide +kernel : kitB "list" "tuple" = some false)
    | exact (by decide +kernel : kitB "list" "list" = some true)
end
end Rf
namespace Rf
open PySem PySem.Spec PyProof.Rows L2

/-! ### the checker: is this expression what the evaluator's term says -/
structure Ck where
  N : List Str
  fs : List String
  cs : List (String × PyData)
  xs : List String
  hs : String × List String
def visB (sc : Scope) (x : Str) : Bool := match sc.names.lookup x with
  | some .local => true
  | some .cell => true
  | some .free => true
  | _ => false
def locB (sc : Scope) (x : Str) : Bool := match sc.names.lookup x with
  | some .local => true
  | some .cell => true
  | _ => false
def glB (sc : Scope) (x : Str) : Bool := (match sc.names.lookup x with
  | some .globalImplicit => true
  | _ => false) && !(x == ("__debug__" : Str))
def plainX : Expr → Bool
  | .Name .. => true | .Constant .. => true | .BinOp .. => true | .UnaryOp .. => true | .BoolOp .. => true | .Compare .. => true
  | .IfExp .. => true | .Call .. => true | .Subscript .. => true | .Tuple .. => true | .List .. => true | .ListComp .. => true
  | _ => false
def isBoolOp : Expr → Bool
  | .BoolOp .. => true
  | _ => false
/-- a test that is a value's truth -/
def valX : Expr → Bool
  | .Name .. => true | .Constant .. => true | .Call .. => true | .Subscript .. => true
  | _ => false
def conX : Expr → Bool
  | .Name .. => true | .Constant .. => true
  | _ => false
def conB : PyData → Const → Bool
  | .none, .none => true
  | .bool a, .bool b => a == b
  | .int a, .int b => a == b
  | .str a, .str b => a == b
  | _, _ => false
def bopB : Bop → Operator → Bool
  | .add, .Add => true | .sub, .Sub => true | .mul, .Mult => true | .fdiv, .FloorDiv => true | .mod, .Mod => true | .pow, .Pow => true
  | _, _ => false
def copB : Cop → CmpOp → Bool
  | .eq, .Eq => true | .ne, .NotEq => true | .lt, .Lt => true | .le, .LtE => true | .gt, .Gt => true | .ge, .GtE => true
  | .is, .Is => true | .isn, .IsNot => true | .isin, .In => true | .nin, .NotIn => true
  | _, _ => false
def biN : Bi → String
  | .len => "len" | .all => "all" | .any => "any" | .max => "max" | .min => "min" | .sum => "sum" | .tuple => "tuple" | .list => "list" | .int => "int"
def ownOf (N : List Str) : List Nat → List (Str × Nat)
  | [] => []
  | i :: is => match N[i]? with
    | some x => (x, i) :: ownOf N is
    | none => ownOf N is
def tgtV (k : Ck) (sc : Scope) : List Nat → List Expr → Bool
  | [], [] => true
  | i :: is, .Name x _ :: es => decide (k.N[i]? = some x) && locB sc x && tgtV k sc is es
  | _, _ => false
mutual
def chkT (k : Ck) (sc : Scope) : T → Expr → Bool
  | .v i, .Name x _ => decide (k.N[i]? = some x) && locB sc x
  | .tup is, .Tuple es _ _ => tgtV k sc is es
  | .nest ts, .Tuple es _ _ => chkTs k sc ts es
  | _, _ => false
def chkTs (k : Ck) (sc : Scope) : Ts → List Expr → Bool
  | .nil, [] => true
  | .cons t ts, e :: es => chkT k sc t e && chkTs k sc ts es
  | _, _ => false
end
def dinB (neg : Bool) (op : CmpOp) : Bool := match neg, op with
  | false, .In => true
  | true, .NotIn => true
  | _, _ => false
mutual
/-- what may be a test -/
def tstX : Expr → Bool
  | .UnaryOp .Not x _ => tstX x
  | .BoolOp _ es _ => tstXs es
  | .Compare .. => true
  | e => valX e
def tstXs : List Expr → Bool
  | [] => true
  | x :: xs => tstX x && tstXs xs
end
/-- what an option gives, held against a test -/
def oTst {α : Type} (o : Option α) (f : α → Bool) : Bool := match o with
  | some a => f a
  | none => false
theorem oTst_eq {α : Type} {o : Option α} {f : α → Bool} (h : oTst o f = true) : ∃ a, o = some a ∧ f a = true := by
  cases o with
  | none => cases h
  | some a => exact ⟨a, rfl, h⟩
def isOne (i : Int) : Bool := decide (i = 1)
def dRev : Expr → Option Expr
  | .Subscript y (.Slice none none (some (.UnaryOp .USub (.Constant (.int i) _ _) _)) _) _ => if isOne i then some y else none
  | _ => none
theorem dRev_eq {e y : Expr} (h : dRev e = some y) : ∃ j p1 p2 p3 p4, e = .Subscript y (.Slice none none (some (.UnaryOp .USub (.Constant (.int 1) j p1) p2)) p3) p4 := by
  unfold dRev at h
  split at h
  · split at h
    · rename_i q
      cases h
      have := of_decide_eq_true q
      subst this
      exact ⟨_, _, _, _, _, rfl⟩
    · cases h
  · cases h
def dLse : Expr → Option (Str × Expr × Expr × Expr × Scope)
  | .Call (.Name y _) [.SetComp e [⟨tg, iter, [], 0⟩] scope _] [] _ => some (y, e, tg, iter, scope)
  | _ => none
theorem dLse_eq {x : Expr} {y : Str} {e tg iter : Expr} {scope : Scope} (h : dLse x = some (y, e, tg, iter, scope)) : ∃ p1 p2 p3, x = .Call (.Name y p1) [.SetComp e [⟨tg, iter, [], 0⟩] scope p2] [] p3 := by
  unfold dLse at h
  split at h
  · cases h; exact ⟨_, _, _, rfl⟩
  · cases h
def dMxD : Expr → Option (Str × Expr × Str × Expr)
  | .Call (.Name y _) [x] [⟨some n, z, _⟩] _ => some (y, x, n, z)
  | _ => none
theorem dMxD_eq {e : Expr} {y x n z} (h : dMxD e = some (y, x, n, z)) : ∃ p1 p2 p3, e = .Call (.Name y p1) [x] [⟨some n, z, p2⟩] p3 := by
  unfold dMxD at h
  split at h
  · cases h; exact ⟨_, _, _, rfl⟩
  · cases h
def dClX : Expr → Option (List Expr × Expr × List Expr)
  | .Call (.Subscript (.List ns _) i _) es [] _ => some (ns, i, es)
  | _ => none
theorem dClX_eq {e : Expr} {ns i es} (h : dClX e = some (ns, i, es)) : ∃ p1 p2 p3, e = .Call (.Subscript (.List ns p1) i p2) es [] p3 := by
  unfold dClX at h
  split at h
  · cases h; exact ⟨_, _, _, rfl⟩
  · cases h
/-- the names of defs -/
def fnsB (k : Ck) (sc : Scope) : List String → List Expr → Bool
  | [], [] => true
  | f :: fs, .Name y _ :: es => (y == Str.ofString f) && glB sc y && k.fs.contains f && fnsB k sc fs es
  | _, _ => false
def mxN (mn : Bool) : Str := if mn then "min" else "max"
mutual
def chkE (k : Ck) : Scope → E → Expr → Bool
  | sc, .var i, .Name x _ => decide (k.N[i]? = some x) && visB sc x && !(x == ("__debug__" : Str)) && !(x == ("__classdict__" : Str))
  | _, .con c, .Constant b _ _ => conB c b
  | sc, .glo x c, .Name y _ => (y == Str.ofString x) && glB sc y && (k.cs.any fun p => p.1 == x && same p.2 c)
  | sc, .tup a, .Tuple es _ _ => decide (a.len ≤ 1000) && chkEs k sc a es
  | sc, .lst a, .List es _ => decide (a.len ≤ 1000) && chkEs k sc a es
  | sc, .bin o a b, .BinOp x op y _ => bopB o op && chkE k sc a x && chkE k sc b y
  | sc, .neg a, .UnaryOp .USub x _ => chkE k sc a x
  | sc, .din neg a b, .Compare x [op] [y] _ => dinB neg op && plainX y && chkE k sc a x && chkE k sc b y
  | sc, .dget b a, .Subscript x y _ => plainX y && chkE k sc b x && chkE k sc a y
  | sc, .cmp o a b, .Compare x [op] [y] _ => copB o op && plainX y && chkE k sc a x && chkE k sc b y
  | sc, .chn o o' a b c, .Compare x [op, op'] [y, z] _ => copB o op && copB o' op' && plainX z && chkE k sc a x && chkE k sc b y && chkE k sc c z
  | sc, .and a b, .BoolOp .And (x :: y :: r) p => chkE k sc a x && (match r with | [] => chkE k sc b y | _ => chkE k sc b (.BoolOp .And (y :: r) p))
  | sc, .or a b, .BoolOp .Or (x :: y :: r) p => chkE k sc a x && (match r with | [] => chkE k sc b y | _ => chkE k sc b (.BoolOp .Or (y :: r) p))
  | sc, .not a, .UnaryOp .Not x _ => chkE k sc a x
  | sc, .ite c a b, .IfExp x y z _ => tstX x && chkE k sc c x && chkE k sc a y && chkE k sc b z
  | sc, .call f a, .Call (.Name y _) es [] _ => (y == Str.ofString f) && glB sc y && k.fs.contains f && es.all plainX && chkEs k sc a es
  | sc, .bi f a, .Call (.Name y _) es [] _ => (y == Str.ofString (biN f)) && glB sc y && !es.isEmpty && es.all plainX && chkEs k sc a es
  | sc, .isi a t, .Call (.Name y _) [x, .Name z _] [] _ => (y == ("isinstance" : Str)) && glB sc y && (z == Str.ofString (tyN t)) && glB sc z && plainX x && chkE k sc a x
  | sc, .idx a i, .Subscript x y _ => plainX y && chkE k sc a x && chkE k sc i y
  | sc, .sli a l h, .Subscript x (.Slice y z none _) _ => chkE k sc a x && chkO k sc l y && chkO k sc h z
  | sc, .comp vs t it c x, .ListComp e [⟨tg, iter, ifs, 0⟩] scope _ => blkC k.N sc scope (ownOf k.N vs) && decide ((ownOf k.N vs).map (·.2) = vs) && (t.slots.all fun i => vs.contains i) && plainX iter && chkI k sc it tg iter &&
      chkT k scope t tg && chkF k (relS scope sc) c ifs && chkE k (relS scope sc) x e
  | sc, .rev a, x => oTst (dRev x) fun z => chkE k sc a z
  | sc, .lset vs t it x, z => oTst (dLse z) fun (y, e, tg, iter, scope) => (y == ("len" : Str)) && glB sc y && blkC k.N sc scope (ownOf k.N vs) && decide ((ownOf k.N vs).map (·.2) = vs) && (t.slots.all fun i => vs.contains i) && plainX iter && chkI k sc it tg iter &&
      chkT k scope t tg && chkE k (relS scope sc) x e
  | sc, .join o a, .Call (.Attribute x m ap) [y] [] p => (m == ("join" : Str)) && (ap.endLine == p.line) && conX x && plainX y && chkE k sc o x && chkE k sc a y
  | sc, .maxD mn a d, x => oTst (dMxD x) fun (y, x, n, z) => (y == mxN mn) && glB sc y && (n == ("default" : Str)) && plainX x && chkE k sc a x && chkE k sc d z
  | sc, .callX fs i a, x => oTst (dClX x) fun (ns, ix, es) => decide (fs.length ≤ 100) && fnsB k sc fs ns && plainX ix && !es.isEmpty && es.all plainX && chkE k sc i ix && chkEs k sc a es
  | _, _, _ => false
def chkEs (k : Ck) : Scope → Es → List Expr → Bool
  | _, .nil, [] => true
  | sc, .cons a b, x :: xs => plainX x && chkE k sc a x && chkEs k sc b xs
  | _, _, _ => false
def chkO (k : Ck) : Scope → Option E → Option Expr → Bool
  | _, none, none => true
  | sc, some a, some x => chkE k sc a x
  | _, _, _ => false
def chkF (k : Ck) : Scope → Option E → List Expr → Bool
  | _, none, [] => true
  | sc, some a, [x] => tstX x && chkE k sc a x
  | _, _, _ => false
def chkI (k : Ck) : Scope → I → Expr → Expr → Bool
  | sc, .of a, _, x => plainX x && chkE k sc a x
  | sc, .range1 a, _, .Call (.Name y _) [x] [] _ => (y == ("range" : Str)) && glB sc y && chkEs k sc a [x]
  | sc, .range2 a, _, .Call (.Name y _) [x, z] [] _ => (y == ("range" : Str)) && glB sc y && chkEs k sc a [x, z]
  | sc, .zip a, .Tuple .., .Call (.Name y _) [x, z] [] _ => (y == ("zip" : Str)) && glB sc y && chkEs k sc a [x, z]
  | sc, .enum a, .Tuple .., .Call (.Name y _) [x] [] _ => (y == ("enumerate" : Str)) && glB sc y && chkEs k sc a [x]
  | sc, .enumZ a, .Tuple .., .Call (.Name y _) [.Call (.Name z _) [u, v] [] _] [] _ => (y == ("enumerate" : Str)) && glB sc y && (z == ("zip" : Str)) && glB sc z && chkEs k sc a [u, v]
  | _, _, _, _ => false
end
end Rf
namespace Rf
open PySem PySem.Spec PyProof.Rows L2

/-- what a def of the text promises: what the evaluator's call gives -/
def spD (ω : World) (O : Orc) (K : Frag) (mg : Str → Option Value) (f : String) : Sp := fun vs H Q E => ∃ ρ S Y ws, Cf ω K H ρ S Y ∧ Rws K H ρ (mu ρ S Y) vs ws ∧
  match O f ws S with
  | .no => False
  | .ex c => ∀ H' C, Same H H' → mg (Str.ofString c) = some (.ref C) → E (.ref C) none H'
  | .d x => ∀ v H', Same H H' → Rp K H' (mu ρ S Y) v x → Q v H'
  | .fresh xs => ∀ p vs' H', Same H H' → H p = none → H' p = some (.lst vs') → RpA K H' (mu ρ S (p :: Y)) vs' xs → Q (.ref p) H'
def CallOk (X : Cx) (O : Orc) (f : String) : Prop := ∃ (a : Addr) (fd : FuncData) (k : Nat) (ps : List Str),
  FnOk X.prog X.w X.K X.mg X.base (L2.CX X.prog X.w) k a fd ps (spD X.w O X.K X.mg f) ∧ Room k X.A ∧ X.mg (Str.ofString f) = some (.ref a) ∧ PySem.W.keepIn X.K (.ref a) = true ∧ Binds X.K fd ps []
def bNames : List String := ["len", "all", "any", "max", "min", "sum", "tuple", "list", "int", "isinstance", "bool", "str", "range", "zip", "enumerate", "set"]
structure XOk (X : Cx) (O : Orc) (k : Ck) (sc so : Scope) : Prop where
  N : X.N = k.N
  sc : X.env.scope = sc
  calm : X.calm = true
  nd : X.N.Nodup
  hu : X.A.units + 65 < cLine
  fs : ∀ f ∈ k.fs, CallOk X O f
  cs : ∀ p ∈ k.cs, ∃ u v, X.mg (Str.ofString p.1) = some u ∧ RelV v u ∧ ∀ H M, Rp X.K H M v p.2
  bl : ∀ b ∈ bNames, X.mg (Str.ofString b) = none
  st : ∀ x, locB so x = true → Loc X.env.scope x ∧ (X.fn x = true ∨ X.env.scope.names.lookup x = some .local)
abbrev fm (X : Cx) (O : Orc) (lo : Nat) (W : WX) : Fm := ⟨X.w, X.K, X.mg, O, lo, W⟩
section
variable {X : Cx} {O : Orc} {k : Ck} {sc so : Scope}
theorem vis_of (h : visB sc x = true) : Vis sc x := by
  unfold visB at h
  split at h
  · exact .inl (by assumption)
  · exact .inr (.inl (by assumption))
  · exact .inr (.inr (by assumption))
  · cases h
theorem loc_of (h : locB sc x = true) : Loc sc x := by
  unfold locB at h
  split at h
  · exact .inl (by assumption)
  · exact .inr (by assumption)
  · cases h
theorem XOk.gl (ok : XOk X O k sc so) {x : Str} (h : glB sc x = true) : Gl X x ∧ (x == ("__debug__" : Str)) = false := by
  unfold glB at h
  obtain ⟨h1, h2⟩ := Bool.and_eq_true_iff.mp h
  refine ⟨?_, by simpa using h2⟩
  show X.env.scope.names.lookup x = some .globalImplicit
  rw [ok.sc]
  split at h1
  · assumption
  · cases h1
theorem star_of {e : Expr} (h : plainX e = true) (es : List Expr) (env : PySem.Env) : starEach (e :: es) env = (false, eval e env) :: starEach es env := by
  cases e <;> first | rfl | cases h
theorem stars_of : ∀ {es : List Expr}, es.all plainX = true → ∀ env : PySem.Env, starEach es env = es.map fun e => (false, eval e env)
  | [], _, _ => rfl
  | e :: es, h, env => by
    obtain ⟨h1, h2⟩ := Bool.and_eq_true_iff.mp h
    rw [star_of h1, stars_of h2]; rfl
theorem back_of {es : List Expr} (h : es.all plainX = true) (env : PySem.Env) (pos : Pos) : (backTo pos (starEach es env)).any (·.1) = false := by
  rw [stars_of h]
  induction es with
  | nil => rfl
  | cons e es ih =>
    obtain ⟨h1, h2⟩ := Bool.and_eq_true_iff.mp h
    have := ih h2
    show (false || (backTo pos (es.map fun e => (false, eval e env))).any (·.1)) = false
    rw [this]; rfl
theorem plainIx_of {e : Expr} (h : plainX e = true) : PlainIx e := by
  cases e <;> first | (intro _ _; rfl) | cases h
theorem fold_of {e : Expr} (h : plainX e = true) (env : PySem.Env) : ∀ x, foldedSetIterable e env x = pure x := by
  cases e <;> first | (intro _; rfl) | cases h
theorem behind_of {e : Expr} (h : plainX e = true) (op : CmpOp) : behindInMarks op e = false := by
  cases e <;> first | rfl | cases h
theorem last_of {o p : CmpOp} {y z : Expr} (h : plainX z = true) : lastMarks [o, p] [y, z] = false := by
  show behindInMarks p z = false
  exact behind_of h p
theorem val_of {e : Expr} (h : valX e = true) (env : PySem.Env) : ∀ whole, isTrue e env whole = (do let v ← whole; standAt e.pos; holding [v] (truthy v)) := by
  cases e <;> first | (intro _; rfl) | cases h
theorem bop_of {o : Bop} {op : Operator} (h : bopB o op = true) : op = bopOf o := by
  cases o <;> cases op <;> first | rfl | cases h
theorem cop_of {o : Cop} {op : CmpOp} (h : copB o op = true) : op = copOf o := by
  cases o <;> cases op <;> first | rfl | cases h
theorem own_ix {N : List Str} : ∀ vs : List Nat, ∀ p ∈ ownOf N vs, N[p.2]? = some p.1
  | [], p, h => by simp [ownOf] at h
  | i :: is, p, h => by
    unfold ownOf at h
    split at h
    · rcases List.mem_cons.mp h with e | h
      · subst e; assumption
      · exact own_ix is p h
    · exact own_ix is p h
theorem pe_callS0 {X : Cx} {CX : CXT} {k : Nat} {f : Addr} {fd : FuncData} {ps : List Str} {sp : Sp} {E : L2.St → XK} {x : Str} {p pos : Pos} (F : FnOk X.prog X.w X.K X.mg X.base CX k f fd ps sp) (hr : Room k X.A) (hg : Gl X x) (hm : X.mg x = some (.ref f)) (hk : PySem.W.keepIn X.K (.ref f) = true) (hb : Binds X.K fd ps []) (hx : ∀ σ, PassesAt CX X σ (E σ))
    (hdb : (x == ("__debug__" : Str)) = false) : PE X (.Call (.Name x p) [] [] pos) (tCallS sp E tNil) :=
  ⟨fun pins s σ H Q I h => wpAny_Call_Name_kw (ld_glob I hg hm (PySem.W.callWith_K0 I.kIn hk (run_fnS F hr hb (hx σ) I .nil h)) hdb)⟩

theorem nodA {l : List Addr} (h : l.Nodup) {i j : Nat} {x : Addr} (a : l[i]? = some x) (b : l[j]? = some x) : i = j := by
  obtain ⟨h1, e1⟩ := List.getElem?_eq_some_iff.mp a
  obtain ⟨h2, e2⟩ := List.getElem?_eq_some_iff.mp b
  exact (List.getElem_inj h).mp (e1.trans e2.symm)
theorem small_of {n : Nat} (h : n ≤ 1000) : n ≤ sizeLine := Nat.le_of_lt (small1000 h)

/-! ### the rules, one by one -/
variable {lo : Nat} {W : WX} {a b c : Expr} {ea eb ec : E} {pos : Pos}
theorem s_var {i : Nat} {x : Str} (ok : XOk X O k sc so) (h1 : k.N[i]? = some x) (h2 : visB sc x = true) (h3 : (x == ("__debug__" : Str)) = false) (h4 : (x == ("__classdict__" : Str)) = false) :
    PE X (.Name x pos) (tE (fm X O lo W) (.var i)) := by
  refine PE_imp (pe_var (i := i) (by rw [ok.N]; exact h1) (by rw [ok.sc]; exact vis_of h2) h3 h4) ?_
  rintro σ H Q ⟨env, ρ, S, Y, fs, po⟩
  simp only [ev] at po
  split at po
  · rename_i w e
    obtain ⟨v, e1, r⟩ := fs.er.at_ i w e
    exact ⟨v, e1, po v H Ste.refl fs.cf r⟩
  · exact po.elim
theorem s_con {c : PyData} {b : Const} {j : Nat} (h : conB c b = true) : PE X (.Constant b j pos) (tE (fm X O lo W) (.con c)) := by
  cases c <;> cases b <;> simp [conB] at h
  case none.none =>
    refine PE_imp pe_non ?_
    rintro σ H Q ⟨env, ρ, S, Y, fs, po⟩
    exact po _ H Ste.refl fs.cf .non
  case bool.bool a b =>
    subst h
    refine PE_imp pe_bl ?_
    rintro σ H Q ⟨env, ρ, S, Y, fs, po⟩
    exact po _ H Ste.refl fs.cf (.bl _)
  case int.int a b =>
    subst h
    refine PE_imp pe_int ?_
    rintro σ H Q ⟨env, ρ, S, Y, fs, po⟩
    exact po _ H Ste.refl fs.cf (.int _)
  case str.str a b =>
    subst h
    refine PE_imp pe_str ?_
    rintro σ H Q ⟨env, ρ, S, Y, fs, po⟩
    exact po _ H Ste.refl fs.cf (.str _)
theorem s_glo {x : String} {c : PyData} {y : Str} (ok : XOk X O k sc so) (h1 : y = Str.ofString x) (h2 : glB sc y = true) (h3 : (k.cs.any fun p => p.1 == x && same p.2 c) = true) : PE X (.Name y pos) (tE (fm X O lo W) (.glo x c)) := by
  obtain ⟨p, hp, e⟩ := List.any_eq_true.mp h3
  obtain ⟨e1, e2⟩ := Bool.and_eq_true_iff.mp e
  have e1 : p.1 = x := by simpa using e1
  have e2 := same_eq _ _ e2
  obtain ⟨u, v, m, r, q⟩ := ok.cs p hp
  obtain ⟨g1, g2⟩ := ok.gl h2
  subst h1 e1 e2
  refine PE_imp (pe_glob g1 m r g2) ?_
  rintro σ H Q ⟨env, ρ, S, Y, fs, po⟩
  exact po _ H Ste.refl fs.cf (q H _)
theorem s_nil : PA X [] (tEs (fm X O lo W) .nil) := by
  refine PA_imp pa_nil ?_
  rintro σ H Q ⟨env, ρ, S, Y, fs, po⟩
  exact po [] H Ste.refl fs.cf .nil
theorem s_cons {es : List Expr} {eas : Es} (h : plainX a = true) (ha : PE X a (tE (fm X O lo W) ea)) (hr : PA X es (tEs (fm X O lo W) eas)) : PA X (a :: es) (tEs (fm X O lo W) (.cons ea eas)) := by
  refine PA_imp (pa_cons ha hr (star_of h _ _)) ?_
  rintro σ H Q ⟨env, ρ, S, Y, fs, po⟩
  simp only [evs] at po
  refine ⟨env, ρ, S, Y, fs, Po.bind po fun w S1 v H1 _ st1 cf1 rw1 h1 => ⟨env, ρ, S1, Y, fs.step st1 cf1, Po.bind h1 fun ws S2 vs H2 _ st2 cf2 rw2 h2 => ?_⟩⟩
  exact h2 (v :: vs) H2 Ste.refl cf2 (.cons (st2.rw' rw1) rw2)
/-- values become data -/
theorem toD_ok {K : Frag} {H : Hp} {ρ Y : List Addr} {S S1 : Sto} {lo : Nat} {v : V} {w : Wd} {d : PyData} (cf : Cf ω K H ρ S Y) (r : Rw K H ρ (mu ρ S Y) v w) (e : toD lo w S = .ok d S1) :
    Ste lo H S H S1 ∧ Cf ω K H ρ S1 Y ∧ Rp K H (mu ρ S1 Y) v d := by
  cases w with
  | d x => cases e; exact ⟨Ste.refl, cf, r⟩
  | r n =>
    obtain ⟨a, h1, rfl⟩ := r
    simp only [toD] at e
    split at e
    · rename_i xs hs
      cases e
      obtain ⟨vs, h2, h3⟩ := (cf.ent n a _ h1 hs).lst _ rfl
      refine ⟨Ste.refl, cf, .lst (.inl ⟨.inl h2, fun z => ?_⟩) h3⟩
      rcases z with z | ⟨m, o, z1, z2, z3⟩
      · exact cf.sep a (List.mem_of_getElem? h1) z
      · have := nodA cf.nd h1 z1
        subst this
        rw [hs] at z2; cases z2; cases z3
    · rename_i xs hs
      split at e
      · rename_i hl
        cases e
        have hn : n < S.length := (List.getElem?_eq_some_iff.mp hs).1
        have st : Ste lo H S H (S.set n (.frz xs)) := ⟨Same.refl H, by simp, fun m => by
          by_cases hm : m = n
          · subst hm
            exact .inr ⟨hl, xs, hs, by rw [List.getElem?_set_self hn]⟩
          · exact .inl (by rw [List.getElem?_set_ne (Ne.symm hm)])⟩
        obtain ⟨vs, h2, h3⟩ := (cf.ent n a _ h1 hs).lst _ rfl
        have cf' : Cf ω K H ρ (S.set n (.frz xs)) Y := ⟨by simpa using cf.len, cf.nd, cf.alive, cf.sep, fun m b o e1 e2 => by
          by_cases hm : m = n
          · subst hm
            rw [h1] at e1; cases e1
            rw [List.getElem?_set_self hn] at e2; cases e2
            exact .ofL rfl h2 (st.rpa h3)
          · rw [List.getElem?_set_ne (Ne.symm hm)] at e2
            exact (cf.ent m b o e1 e2).mono st.lr (sqT_same st.same) fun u e => st.same _ _ e⟩
        refine ⟨st, cf', .lst (.inl ⟨.inl h2, fun z => ?_⟩) (st.rpa h3)⟩
        rcases z with z | ⟨m, o, z1, z2, z3⟩
        · exact cf.sep a (List.mem_of_getElem? h1) z
        · have := nodA cf.nd h1 z1
          subst this
          rw [List.getElem?_set_self hn] at z2; cases z2; cases z3
      · cases e
    · cases e
theorem toDs_ok {K : Frag} {H : Hp} {ρ Y : List Addr} {lo : Nat} : ∀ {ws : List Wd} {vs : List V} {S S1 : Sto} {ds : List PyData}, Cf ω K H ρ S Y → Rws K H ρ (mu ρ S Y) vs ws → toDs lo ws S = .ok ds S1 →
    Ste lo H S H S1 ∧ Cf ω K H ρ S1 Y ∧ RpA K H (mu ρ S1 Y) vs ds
  | [], _, _, _, _, cf, r, e => by cases r; cases e; exact ⟨Ste.refl, cf, .nil⟩
  | w :: ws, _, S, S1, ds, cf, r, e => by
    cases r with
    | cons r rr =>
      simp only [toDs] at e
      cases e1 : toD lo w S with
      | no => rw [e1] at e; cases e
      | ex c S2 => rw [e1] at e; cases e
      | ok d S2 =>
        rw [e1] at e
        simp only [bind_ok] at e
        obtain ⟨st1, cf1, r1⟩ := toD_ok cf r e1
        cases e2 : toDs lo ws S2 with
        | no => rw [e2] at e; cases e
        | ex c S3 => rw [e2] at e; cases e
        | ok es S3 =>
          rw [e2] at e
          cases e
          obtain ⟨st2, cf2, r2⟩ := toDs_ok cf1 (st1.rws rr) e2
          exact ⟨st1.trans st2, cf2, .cons (st2.rp r1) r2⟩
theorem toD_nex {lo : Nat} {w : Wd} {S S1 : Sto} {c : String} : toD lo w S ≠ .ex c S1 := by
  intro e
  cases w with
  | d x => cases e
  | r n =>
    simp only [toD] at e
    split at e
    · cases e
    · split at e <;> cases e
    · cases e
theorem toDs_nex {lo : Nat} : ∀ {w : List Wd} {S S1 : Sto} {c : String}, toDs lo w S ≠ .ex c S1
  | [], _, _, _, e => by cases e
  | w :: ws, S, S1, c, e => by
    simp only [toDs] at e
    cases e1 : toD lo w S with
    | no => rw [e1] at e; cases e
    | ex c S2 => exact toD_nex e1
    | ok d S2 =>
      rw [e1] at e
      simp only [bind_ok] at e
      cases e2 : toDs lo ws S2 with
      | no => rw [e2] at e; cases e
      | ex c S3 => exact toDs_nex e2
      | ok es S3 => rw [e2] at e; cases e
theorem s_disp {α : Type} {R : Hp → Sto → V → α → Prop} {ρ Y : List Addr} {σ : L2.St} {H : Hp} {S : Sto} {Q : V → Hp → Prop} {ws : List Wd} {f : List PyData → Sto → Res α}
    (h : Po (fm X O lo W) ρ Y σ R H S ((toDs lo ws S).bind f) Q) : ∃ ds S2, toDs lo ws S = .ok ds S2 ∧ Po (fm X O lo W) ρ Y σ R H S (f ds S2) Q := by
  cases e1 : toDs lo ws S with
  | no => rw [e1] at h; exact h.elim
  | ex c S2 => exact (toDs_nex e1).elim
  | ok ds S2 => rw [e1] at h; exact ⟨ds, S2, rfl, h⟩
theorem s_tup {es : List Expr} {eas : Es} {x1} (hl : eas.len ≤ 1000) (hr : PA X es (tEs (fm X O lo W) eas)) : PE X (.Tuple es x1 pos) (tE (fm X O lo W) (.tup eas)) := by
  refine PE_imp (pe_tup hr) ?_
  rintro σ H Q ⟨env, ρ, S, Y, fs, po⟩
  simp only [ev] at po
  refine ⟨env, ρ, S, Y, fs, Po.bind po fun ws S1 vs H1 e0 st1 cf1 rw1 h1 => ?_⟩
  obtain ⟨ds, S2, e1, h1⟩ := s_disp h1
  obtain ⟨st2, cf2, r2⟩ := toDs_ok cf1 rw1 e1
  refine ⟨small_of (by rw [rw1.len, evs_len e0]; exact hl), fun p hp => ?_⟩
  obtain ⟨sm, rp⟩ := rp_newT (K := X.K) (M := mu ρ S2 Y) (H := H1) (fun _ z => cf2.mu_alive z) hp r2
  exact h1 _ _ (st2.trans (Ste.of sm)) (cf2.grow sm) rp
theorem s_lst {es : List Expr} {eas : Es} (hl : eas.len ≤ 1000) (hr : PA X es (tEs (fm X O lo W) eas)) : PE X (.List es pos) (tE (fm X O lo W) (.lst eas)) := by
  refine PE_imp (pe_lst hr) ?_
  rintro σ H Q ⟨env, ρ, S, Y, fs, po⟩
  simp only [ev] at po
  refine ⟨env, ρ, S, Y, fs, Po.bind po fun ws S1 vs H1 e0 st1 cf1 rw1 h1 => ?_⟩
  obtain ⟨ds, S2, e1, h1⟩ := s_disp h1
  obtain ⟨st2, cf2, r2⟩ := toDs_ok cf1 rw1 e1
  refine ⟨small_of (by rw [rw1.len, evs_len e0]; exact hl), fun p hp => ?_⟩
  obtain ⟨sm, rp⟩ := rp_newL (K := X.K) (M := mu ρ S2 Y) (H := H1) (fun _ z => cf2.mu_alive z) hp r2
  exact h1 _ _ (st2.trans (Ste.of sm)) (cf2.grow sm) rp
theorem s_bin {o : Bop} {op : Operator} (ho : op = bopOf o) (ha : PE X a (tE (fm X O lo W) ea)) (hb : PE X b (tE (fm X O lo W) eb)) : PE X (.BinOp a op b pos) (tE (fm X O lo W) (.bin o ea eb)) := by
  subst ho
  refine PE_imp (pe_op (op_binD o) ha hb) ?_
  rintro σ H Q ⟨env, ρ, S, Y, fs, po⟩
  simp only [ev] at po
  refine ⟨env, ρ, S, Y, fs, Po.bind po fun x S1 v H1 _ st1 cf1 rw1 h1 => ⟨env, ρ, S1, Y, fs.step st1 cf1, Po.bind h1 fun y S2 u H2 _ st2 cf2 rw2 h2 => ?_⟩⟩
  obtain ⟨x', e1, h2⟩ := Po.orNo h2
  obtain ⟨y', e2, h2⟩ := Po.orNo h2
  obtain ⟨z, e3, h2⟩ := Po.orNo h2
  exact ⟨mu ρ S2 Y, x', y', z, fun _ z => cf2.mu_alive z, Vw.of cf2 (st2.rw' rw1) e1, Vw.of cf2 rw2 e2, e3, fun v' H' sm rp => h2 v' H' (Ste.of sm) (cf2.grow sm) rp⟩
theorem s_neg (ha : PE X a (tE (fm X O lo W) ea)) : PE X (.UnaryOp .USub a pos) (tE (fm X O lo W) (.neg ea)) := by
  refine PE_imp (pe_un un_neg ha) ?_
  rintro σ H Q ⟨env, ρ, S, Y, fs, po⟩
  simp only [ev] at po
  refine ⟨env, ρ, S, Y, fs, Po.bind po fun x S1 v H1 _ st1 cf1 rw1 h1 => ?_⟩
  obtain ⟨i, e1, h1⟩ := Po.orNo h1
  exact ⟨i, asI_of rw1 e1, h1 _ H1 Ste.refl cf1 (.int _)⟩
/-! tests -/
theorem tB_E {F : Fm} {e : E} {σ : L2.St} {H : Hp} {Q : Bool → Hp → Prop} (h : tB' F e σ H Q) : tE F e σ H (fun v H1 => ∃ k, v = .bl k ∧ Q k H1) := by
  obtain ⟨env, ρ, S, Y, fs, po⟩ := h
  refine ⟨env, ρ, S, Y, fs, Po.bind po fun w S1 v H1 _ st cf rw h => ?_⟩
  cases e1 : asB w with
  | none => rw [e1] at h; exact h.elim
  | some k => rw [e1] at h; exact ⟨k, asB_of rw e1, h k H1 Ste.refl cf rfl⟩
theorem Po.test {F : Fm} {ρ Y : List Addr} {σ : L2.St} {γ δ : Type} {R2 : Hp → Sto → δ → γ → Prop} {H : Hp} {S : Sto} {r : Res Wd} {g : Bool → Sto → Res γ} {Q : δ → Hp → Prop} {Q' : Bool → Hp → Prop}
    (h : Po F ρ Y σ R2 H S (r.bind fun x S1 => (Rf.orNo (asB x) S1).bind fun k _ => g k S1) Q) (q : ∀ k S1 H1, Ste F.lo H S H1 S1 → Cf F.ω F.K H1 ρ S1 Y → Po F ρ Y σ R2 H1 S1 (g k S1) Q → Q' k H1) :
    Po F ρ Y σ REq H S (r.bind fun w S1 => Rf.orNo (asB w) S1) Q' := by
  cases r with
  | no => exact h
  | ex c S1 => exact h
  | ok w S1 =>
    simp only [bind_ok] at h ⊢
    obtain ⟨k, e, h⟩ := Po.orNo h
    rw [e]
    intro b H' st cf rb
    subst rb
    exact q _ S1 H' st cf (Po.step h st)
theorem i_cmp {o : Cop} {K : Frag} {σ : L2.St} {H : Hp} {Q : VK} (po : tE (fm X O lo W) (.cmp o ea eb) σ H Q) : tOp (rCm X.K o) (tE (fm X O lo W) ea) (tE (fm X O lo W) eb) σ H Q := by
  obtain ⟨env, ρ, S, Y, fs, po⟩ := po
  simp only [ev] at po
  refine ⟨env, ρ, S, Y, fs, Po.bind po fun x S1 v H1 _ st1 cf1 rw1 h1 => ⟨env, ρ, S1, Y, fs.step st1 cf1, Po.bind h1 fun y S2 u H2 _ st2 cf2 rw2 h2 => ?_⟩⟩
  obtain ⟨x', e1, h2⟩ := Po.orNo h2
  obtain ⟨y', e2, h2⟩ := Po.orNo h2
  obtain ⟨z, e3, h2⟩ := Po.orNo h2
  exact ⟨mu ρ S2 Y, x', y', z, Vw.of cf2 (st2.rw' rw1) e1, Vw.of cf2 rw2 e2, e3, h2 _ H2 Ste.refl cf2 (.bl _)⟩
theorem s_cmp {o : Cop} {op : CmpOp} (ok : XOk X O k sc so) (ho : op = copOf o) (hp : plainX b = true) (ha : PE X a (tE (fm X O lo W) ea)) (hb : PE X b (tE (fm X O lo W) eb)) : PE X (.Compare a [op] [b] pos) (tE (fm X O lo W) (.cmp o ea eb)) := by
  subst ho
  exact PE_imp (pe_cmpR (op_cmpD ok.hu o) ha hb (behind_of hp _)) fun σ H Q h => i_cmp (K := X.K) h
theorem t_cmp {o : Cop} {op : CmpOp} (ok : XOk X O k sc so) (ho : op = copOf o) (hp : plainX b = true) (ha : PE X a (tE (fm X O lo W) ea)) (hb : PE X b (tE (fm X O lo W) eb)) : PT X (.Compare a [op] [b] pos) (tB' (fm X O lo W) (.cmp o ea eb)) := by
  subst ho
  exact PT_imp (pt_cmpR (op_cmpD ok.hu o) ha hb (behind_of hp _)) fun σ H Q h => i_cmp (K := X.K) (tB_E h)
theorem i_chn {o p : Cop} {σ : L2.St} {H : Hp} {Q : VK} (po : tE (fm X O lo W) (.chn o p ea eb ec) σ H Q) : tChain (rCm X.K o) (rCm X.K p) (tE (fm X O lo W) ea) (tE (fm X O lo W) eb) (tE (fm X O lo W) ec) σ H Q := by
  obtain ⟨env, ρ, S, Y, fs, po⟩ := po
  simp only [ev] at po
  refine ⟨env, ρ, S, Y, fs, Po.bind po fun x S1 v H1 _ st1 cf1 rw1 h1 => ⟨env, ρ, S1, Y, fs.step st1 cf1, Po.bind h1 fun y S2 u H2 _ st2 cf2 rw2 h2 => ?_⟩⟩
  obtain ⟨x', e1, h2⟩ := Po.orNo h2
  obtain ⟨y', e2, h2⟩ := Po.orNo h2
  obtain ⟨z, e3, h2⟩ := Po.orNo h2
  refine ⟨mu ρ S2 Y, x', y', z, Vw.of cf2 (st2.rw' rw1) e1, Vw.of cf2 rw2 e2, e3, z, rfl, ?_⟩
  cases z with
  | false => rw [if_neg (by simp)]; exact h2 _ H2 Ste.refl cf2 (.bl _)
  | true =>
    rw [if_pos rfl]
    refine ⟨env, ρ, S2, Y, (fs.step st1 cf1).step st2 cf2, Po.bind h2 fun w S3 t H3 _ st3 cf3 rw3 h3 => ?_⟩
    obtain ⟨w', e4, h3⟩ := Po.orNo h3
    obtain ⟨y2, e5, h3⟩ := Po.orNo h3
    obtain ⟨z2, e6, h3⟩ := Po.orNo h3
    exact ⟨mu ρ S3 Y, y2, w', z2, Vw.of cf3 (st3.rw' rw2) e5, Vw.of cf3 rw3 e4, e6, h3 _ H3 Ste.refl cf3 (.bl _)⟩
theorem s_chn {o p : Cop} {op oq : CmpOp} (ok : XOk X O k sc so) (ho : op = copOf o) (hq : oq = copOf p) (hp : plainX c = true) (ha : PE X a (tE (fm X O lo W) ea)) (hb : PE X b (tE (fm X O lo W) eb)) (hc : PE X c (tE (fm X O lo W) ec)) : PE X (.Compare a [op, oq] [b, c] pos) (tE (fm X O lo W) (.chn o p ea eb ec)) := by
  subst ho hq
  exact PE_imp (pe_chain (op_cmpD ok.hu o) (op_cmpD ok.hu p) ha hb hc (last_of hp)) fun σ H Q h => i_chn h
theorem t_chn {o p : Cop} {op oq : CmpOp} (ok : XOk X O k sc so) (ho : op = copOf o) (hq : oq = copOf p) (hp : plainX c = true) (ha : PE X a (tE (fm X O lo W) ea)) (hb : PE X b (tE (fm X O lo W) eb)) (hc : PE X c (tE (fm X O lo W) ec)) : PT X (.Compare a [op, oq] [b, c] pos) (tB' (fm X O lo W) (.chn o p ea eb ec)) := by
  subst ho hq
  exact PT_imp (pt_chain (op_cmpD ok.hu o) (op_cmpD ok.hu p) ha hb hc (last_of hp)) fun σ H Q h => i_chn (tB_E h)
/-- a value's truth as a test -/
theorem t_val {e : Expr} {ee : E} (h : PE X e (tE (fm X O lo W) ee)) (hv : valX e = true) : PT X e (tB' (fm X O lo W) ee) :=
  PT_imp (pt_val h (val_of hv _)) fun σ H Q q => tB_E q
theorem i_and {σ : L2.St} {H : Hp} {Q : VK} (po : tE (fm X O lo W) (.and ea eb) σ H Q) : tAndV (tE (fm X O lo W) ea) (tE (fm X O lo W) eb) σ H Q := by
  obtain ⟨env, ρ, S, Y, fs, po⟩ := po
  simp only [ev] at po
  refine ⟨env, ρ, S, Y, fs, Po.bind po fun x S1 v H1 _ st1 cf1 rw1 h1 => ?_⟩
  obtain ⟨k, e1, h1⟩ := Po.orNo h1
  refine ⟨k, asB_of rw1 e1, ?_⟩
  cases k with
  | true => rw [if_pos rfl]; exact ⟨env, ρ, S1, Y, fs.step st1 cf1, h1⟩
  | false => rw [if_neg (by simp)]; exact h1 _ H1 Ste.refl cf1 (.bl _)
theorem i_or {σ : L2.St} {H : Hp} {Q : VK} (po : tE (fm X O lo W) (.or ea eb) σ H Q) : tOrV (tE (fm X O lo W) ea) (tE (fm X O lo W) eb) σ H Q := by
  obtain ⟨env, ρ, S, Y, fs, po⟩ := po
  simp only [ev] at po
  refine ⟨env, ρ, S, Y, fs, Po.bind po fun x S1 v H1 _ st1 cf1 rw1 h1 => ?_⟩
  obtain ⟨k, e1, h1⟩ := Po.orNo h1
  refine ⟨k, asB_of rw1 e1, ?_⟩
  cases k with
  | true => rw [if_pos rfl]; exact h1 _ H1 Ste.refl cf1 (.bl _)
  | false => rw [if_neg (by simp)]; exact ⟨env, ρ, S1, Y, fs.step st1 cf1, h1⟩
theorem j_and {σ : L2.St} {H : Hp} {Q : Bool → Hp → Prop} (po : tB' (fm X O lo W) (.and ea eb) σ H Q) : tAnd (tB' (fm X O lo W) ea) (tB' (fm X O lo W) eb) σ H Q := by
  obtain ⟨env, ρ, S, Y, fs, po⟩ := po
  simp only [ev] at po
  have e : ∀ (r : Res Wd) (f : Bool → Sto → Res Wd), ((r.bind fun x S1 => (Rf.orNo (asB x) S1).bind fun k _ => f k S1).bind fun w S1 => Rf.orNo (asB w) S1) = r.bind fun x S1 => (Rf.orNo (asB x) S1).bind fun k _ => ((f k S1).bind fun w S1 => Rf.orNo (asB w) S1) := by
    intro r f
    cases r with
    | no => rfl
    | ex c S => rfl
    | ok w S1 =>
      simp only [bind_ok]
      cases asB w <;> rfl
  rw [e] at po
  refine ⟨env, ρ, S, Y, fs, Po.test po fun k S1 H1 st cf h => ?_⟩
  cases k with
  | true => rw [if_pos rfl]; exact ⟨env, ρ, S1, Y, fs.step st cf, h⟩
  | false => rw [if_neg (by simp)]; exact h false H1 Ste.refl cf rfl
theorem j_or {σ : L2.St} {H : Hp} {Q : Bool → Hp → Prop} (po : tB' (fm X O lo W) (.or ea eb) σ H Q) : tOr (tB' (fm X O lo W) ea) (tB' (fm X O lo W) eb) σ H Q := by
  obtain ⟨env, ρ, S, Y, fs, po⟩ := po
  simp only [ev] at po
  have e : ∀ (r : Res Wd) (f : Bool → Sto → Res Wd), ((r.bind fun x S1 => (Rf.orNo (asB x) S1).bind fun k _ => f k S1).bind fun w S1 => Rf.orNo (asB w) S1) = r.bind fun x S1 => (Rf.orNo (asB x) S1).bind fun k _ => ((f k S1).bind fun w S1 => Rf.orNo (asB w) S1) := by
    intro r f
    cases r with
    | no => rfl
    | ex c S => rfl
    | ok w S1 =>
      simp only [bind_ok]
      cases asB w <;> rfl
  rw [e] at po
  refine ⟨env, ρ, S, Y, fs, Po.test po fun k S1 H1 st cf h => ?_⟩
  cases k with
  | true => rw [if_pos rfl]; exact h true H1 Ste.refl cf rfl
  | false => rw [if_neg (by simp)]; exact ⟨env, ρ, S1, Y, fs.step st cf, h⟩
theorem s_not (ha : PE X a (tE (fm X O lo W) ea)) : PE X (.UnaryOp .Not a pos) (tE (fm X O lo W) (.not ea)) := by
  refine PE_imp (pe_not ha) ?_
  rintro σ H Q ⟨env, ρ, S, Y, fs, po⟩
  simp only [ev] at po
  refine ⟨env, ρ, S, Y, fs, Po.bind po fun x S1 v H1 _ st1 cf1 rw1 h1 => ?_⟩
  obtain ⟨k, e1, h1⟩ := Po.orNo h1
  exact ⟨k, asB_of rw1 e1, h1 _ H1 Ste.refl cf1 (.bl _)⟩
theorem t_not (ha : PT X a (tB' (fm X O lo W) ea)) : PT X (.UnaryOp .Not a pos) (tB' (fm X O lo W) (.not ea)) := by
  refine PT_imp (pt_not ha) ?_
  rintro σ H Q ⟨env, ρ, S, Y, fs, po⟩
  simp only [ev] at po
  have e : ∀ (r : Res Wd), ((r.bind fun x S1 => (Rf.orNo (asB x) S1).bind fun k _ => (.ok (.d (.bool (!k))) S1 : Res Wd)).bind fun w S1 => Rf.orNo (asB w) S1) = r.bind fun x S1 => (Rf.orNo (asB x) S1).bind fun k _ => .ok (!k) S1 := by
    intro r
    cases r with
    | no => rfl
    | ex c S => rfl
    | ok w S1 =>
      simp only [bind_ok]
      cases asB w <;> rfl
  rw [e] at po
  exact ⟨env, ρ, S, Y, fs, Po.test po fun k S1 H1 st cf h => h _ H1 Ste.refl cf rfl⟩
theorem s_ite (hc : PT X c (tB' (fm X O lo W) ec)) (ha : PE X a (tE (fm X O lo W) ea)) (hb : PE X b (tE (fm X O lo W) eb)) : PE X (.IfExp c a b pos) (tE (fm X O lo W) (.ite ec ea eb)) := by
  refine PE_imp (pe_ifExp hc ha hb) ?_
  rintro σ H Q ⟨env, ρ, S, Y, fs, po⟩
  simp only [ev] at po
  refine ⟨env, ρ, S, Y, fs, Po.test (g := fun k S1 => if k = true then ev O lo ea env S1 else ev O lo eb env S1) po fun k S1 H1 st cf h => ?_⟩
  cases k with
  | true => rw [if_pos rfl] at h ⊢; exact ⟨env, ρ, S1, Y, fs.step st cf, h⟩
  | false => rw [if_neg (by simp)] at h ⊢; exact ⟨env, ρ, S1, Y, fs.step st cf, h⟩
/-! calls -/
theorem Rws.nil_iff {K : Frag} {H : Hp} {ρ : List Addr} {M : Pr} {vs : List V} {ws : List Wd} (h : Rws K H ρ M vs ws) : vs = [] ↔ ws = [] := by
  cases h <;> simp
theorem i_call {f : String} {eas : Es} {t : TA} {σ : L2.St} {H : Hp} {Q : VK} (po : tE (fm X O lo W) (.call f eas) σ H Q) : tCallS (spD X.w O X.K X.mg f) (WE W) (tEs (fm X O lo W) eas) σ H Q := by
  obtain ⟨env, ρ, S, Y, fs, po⟩ := po
  simp only [ev] at po
  refine ⟨env, ρ, S, Y, fs, Po.bind po fun ws S1 vs H1 _ st1 cf1 rw1 h1 => ?_⟩
  refine ⟨ρ, S1, Y, ws, cf1, rw1, ?_⟩
  have h1 : Po (fm X O lo W) ρ Y σ (RW (fm X O lo W) ρ Y) H1 S1 (match O f ws S1 with | .d x => Res.ok (Wd.d x) S1 | .fresh xs => .ok (.d (.list xs)) S1 | .ex c => .ex c S1 | .no => .no) Q := h1
  cases e : O f ws S1 with
  | no => rw [e] at h1; exact h1.elim
  | ex c => rw [e] at h1; exact fun H' C sm m => h1 H' C (Ste.of sm) (cf1.grow sm) m
  | d x => rw [e] at h1; exact fun v H' sm rp => h1 v H' (Ste.of sm) (cf1.grow sm) rp
  | fresh xs =>
    rw [e] at h1
    refine fun p vs' H' sm hp hp' rp => h1 (.ref p) H' (Ste.of sm) (cf1.grow sm) (.lst (.inl ⟨.inl hp', fun z => cf1.mu_alive z hp⟩) ?_)
    exact RpA.mono (fun a xs l => l.elim (fun l => .inl ⟨l.1, fun z => l.2 (z.elim (fun z => .inl (List.mem_cons_of_mem _ z)) .inr)⟩) .inr) (fun _ _ q => q) _ _ rp
theorem s_call {f : String} {eas : Es} {y : Str} {es : List Expr} {p : Pos} (ok : XOk X O k sc so) (tk : Takes X W) (h1 : y = Str.ofString f) (h2 : glB sc y = true) (h3 : k.fs.contains f = true) (h4 : es.all plainX = true) (h5 : es = [] → eas = .nil) (ha : PA X es (tEs (fm X O lo W) eas)) :
    PE X (.Call (.Name y p) es [] pos) (tE (fm X O lo W) (.call f eas)) := by
  obtain ⟨g1, g2⟩ := ok.gl h2
  obtain ⟨a, fd, kk, ps, F, hr, hm, hk, hb⟩ := ok.fs f (by simpa using h3)
  subst h1
  cases es with
  | nil =>
    refine PE_imp (pe_callS0 F hr g1 hm hk hb (fun σ => passAt tk σ) g2) fun σ H Q h => ?_
    have h := i_call (t := tNil) h
    have e := h5 rfl
    subst e
    obtain ⟨env, ρ, S, Y, fs, po⟩ := h
    exact po [] H Ste.refl fs.cf .nil
  | cons e es =>
    obtain ⟨q1, q2⟩ := Bool.and_eq_true_iff.mp h4
    exact PE_imp (pe_callS F hr g1 hm hk hb (fun σ => passAt tk σ) ha g2 (star_of q1 _ _) (back_of q2 _ _)) fun σ H Q h => i_call (t := tNil) h
/-! built-in functions -/
theorem bi_boot (f : Bi) : bootBuiltins (Str.ofString (biN f)) = some (biV f) := by
  cases f <;> decide +kernel
theorem bi_in (f : Bi) : biN f ∈ bNames := by
  cases f <;> decide
theorem nn_of {b : String} (h : b ∈ bNames) : Str.ofString b ≠ ("__name__" : Str) ∧ (Str.ofString b == ("__debug__" : Str)) = false := by
  have : ∀ b ∈ bNames, decide (Str.ofString b ≠ ("__name__" : Str)) = true ∧ (Str.ofString b == ("__debug__" : Str)) = false := by decide +kernel
  exact ⟨of_decide_eq_true (this b h).1, (this b h).2⟩
theorem s_bi {f : Bi} {eas : Es} {y : Str} {e : Expr} {es : List Expr} {p : Pos} (ok : XOk X O k sc so) (h1 : y = Str.ofString (biN f)) (h2 : glB sc y = true) (h4 : (e :: es).all plainX = true) (ha : PA X (e :: es) (tEs (fm X O lo W) eas)) :
    PE X (.Call (.Name y p) (e :: es) [] pos) (tE (fm X O lo W) (.bi f eas)) := by
  obtain ⟨g1, g2⟩ := ok.gl h2
  subst h1
  have hm := ok.bl _ (bi_in f)
  obtain ⟨q1, q2⟩ := Bool.and_eq_true_iff.mp h4
  have imp : ∀ σ H Q, tE (fm X O lo W) (.bi f eas) σ H Q → tCB (rBi X.K f) (tEs (fm X O lo W) eas) σ H Q := by
    rintro σ H Q ⟨env, ρ, S, Y, fs, po⟩
    simp only [ev] at po
    refine ⟨env, ρ, S, Y, fs, Po.bind po fun ws S1 vs H1 _ st1 cf1 rw1 h1 => ?_⟩
    obtain ⟨xs, e1, h1⟩ := Po.orNo h1
    obtain ⟨z, e2, h1⟩ := Po.orNo h1
    exact ⟨mu ρ S1 Y, xs, z, fun _ z => cf1.mu_alive z, Vws.of cf1 rw1 e1, e2, fun v H' sm rp => h1 v H' (Ste.of sm) (cf1.grow sm) rp⟩
  have hb := bi_boot f
  have hc := cr_bi ok.calm f
  cases f <;> first
    | exact PE_imp (pe_callB hc g1 hm hb ha (nn_of (bi_in _)).1 g2 (star_of q1 _ _) (back_of q2 _ _)) imp
    | exact PE_imp (pe_callTy hc g1 hm hb ha (nn_of (bi_in _)).1 g2 (star_of q1 _ _) (back_of q2 _ _)) imp
theorem ty_boot (t : Ty) : bootBuiltins (Str.ofString (tyN t)) = some (.type (tyN t)) := by
  cases t <;> decide +kernel
theorem ty_in (t : Ty) : tyN t ∈ bNames := by
  cases t <;> decide
theorem s_isi {t : Ty} {y z : Str} {p p2 : Pos} (ok : XOk X O k sc so) (h1 : y = ("isinstance" : Str)) (h2 : glB sc y = true) (h3 : z = Str.ofString (tyN t)) (h4 : glB sc z = true) (h5 : plainX a = true) (ha : PE X a (tE (fm X O lo W) ea)) :
    PE X (.Call (.Name y p) [a, .Name z p2] [] pos) (tE (fm X O lo W) (.isi ea t)) := by
  obtain ⟨g1, g2⟩ := ok.gl h2
  obtain ⟨g3, g4⟩ := ok.gl h4
  subst h1 h3
  have hm := ok.bl "isinstance" (by decide)
  have hm2 := ok.bl _ (ty_in t)
  have pz : PE X (.Name (Str.ofString (tyN t)) p2) (tC (.ty (tyN t))) := pe_bltn g3 hm2 (ty_boot t) rfl (nn_of (ty_in t)).1 g4
  refine PE_imp (pe_callB call_isi g1 hm (by decide +kernel) (pa_cons ha (pa_cons pz pa_nil (star_of rfl _ _)) (star_of h5 _ _)) (by decide +kernel) g2 (star_of h5 _ _) (back_of rfl _ _)) ?_
  rintro σ H Q ⟨env, ρ, S, Y, fs, po⟩
  simp only [ev] at po
  refine ⟨env, ρ, S, Y, fs, Po.bind po fun x S1 v H1 _ st1 cf1 rw1 h1 => ?_⟩
  obtain ⟨x', e1, h1⟩ := Po.orNo h1
  have vw := Vw.of cf1 rw1 e1
  refine ⟨v, .ty (tyN t), .type (tyOfD x'), .type (tyN t), isiD t x', rfl, .ty _, tyx vw, kit_ty (kit_D t x' fun z hz => ?_), h1 _ H1 Ste.refl cf1 (.bl _)⟩
  subst hz
  cases vw with | rp h => cases h
theorem s_idx (hp : plainX b = true) (ha : PE X a (tE (fm X O lo W) ea)) (hb : PE X b (tE (fm X O lo W) eb)) : PE X (.Subscript a b pos) (tE (fm X O lo W) (.idx ea eb)) := by
  refine PE_imp (pe_ix ix_D ha hb (plainIx_of hp)) ?_
  rintro σ H Q ⟨env, ρ, S, Y, fs, po⟩
  simp only [ev] at po
  refine ⟨env, ρ, S, Y, fs, Po.bind po fun x S1 v H1 _ st1 cf1 rw1 h1 => ⟨env, ρ, S1, Y, fs.step st1 cf1, Po.bind h1 fun y S2 u H2 _ st2 cf2 rw2 h2 => ?_⟩⟩
  obtain ⟨x', e1, h2⟩ := Po.orNo h2
  obtain ⟨y', e2, h2⟩ := Po.orNo h2
  obtain ⟨z, e3, h2⟩ := Po.orNo h2
  exact ⟨mu ρ S2 Y, x', y', z, Vw.of cf2 (st2.rw' rw1) e1, Vw.of cf2 rw2 e2, e3, fun v' rp => h2 v' H2 Ste.refl cf2 rp⟩
def tEo (F : Fm) (e : Option E) : TO := fun σ H Q => ∃ env ρ S Y, Fs F σ H env ρ S Y ∧ Po F ρ Y σ REq H S (evo F.O F.lo e env S) Q
theorem o_none : PO X none (tEo (fm X O lo W) none) := ⟨fun pins s σ H Q I ⟨env, ρ, S, Y, fs, po⟩ => po_none.run pins s σ H Q I (po none H Ste.refl fs.cf rfl)⟩
theorem o_some (ha : PE X a (tE (fm X O lo W) ea)) : PO X (some a) (tEo (fm X O lo W) (some ea)) := ⟨fun pins s σ H Q I ⟨env, ρ, S, Y, fs, po⟩ => (po_some ha).run pins s σ H Q I (by
  simp only [evo] at po
  refine ⟨env, ρ, S, Y, fs, Po.bind po fun x S1 v H1 _ st1 cf1 rw1 h1 => ?_⟩
  obtain ⟨i, e1, h1⟩ := Po.orNo h1
  exact ⟨i, asI_of rw1 e1, h1 _ H1 Ste.refl cf1 rfl⟩)⟩
theorem s_sli {l h : Option E} {x y : Option Expr} {p2 : Pos} (ha : PE X a (tE (fm X O lo W) ea)) (hl : PO X x (tEo (fm X O lo W) l)) (hh : PO X y (tEo (fm X O lo W) h)) : PE X (.Subscript a (.Slice x y none p2) pos) (tE (fm X O lo W) (.sli ea l h)) := by
  refine PE_imp (pe_slice sl_D ha hl hh) ?_
  rintro σ H Q ⟨env, ρ, S, Y, fs, po⟩
  simp only [ev] at po
  refine ⟨env, ρ, S, Y, fs, Po.bind po fun x S1 v H1 _ st1 cf1 rw1 h1 => ⟨env, ρ, S1, Y, fs.step st1 cf1, Po.bind h1 fun i S2 i' H2 _ st2 cf2 rw2 h2 =>
    ⟨env, ρ, S2, Y, (fs.step st1 cf1).step st2 cf2, Po.bind h2 fun j S3 j' H3 _ st3 cf3 rw3 h3 => ?_⟩⟩⟩
  have q1 : i' = i := rw2
  have q2 : j' = j := rw3
  subst q1 q2
  obtain ⟨x', e1, h3⟩ := Po.orNo h3
  obtain ⟨z, e2, h3⟩ := Po.orNo h3
  exact ⟨mu ρ S3 Y, x', z, fun _ z => cf3.mu_alive z, Vw.of cf3 (st3.rw' (st2.rw' rw1)) e1, e2, fun v' H' sm rp => h3 v' H' (Ste.of sm) (cf3.grow sm) rp⟩
/-! sep.join(list) -/
theorem base_of {e : Expr} (h : conX e = true) (m : Str) (env : PySem.Env) : attributeBase e m env (eval e env) = eval e env := by
  cases e <;> first | rfl | cases h
theorem s_join {m : Str} {ap : Pos} (h1 : m = ("join" : Str)) (h2 : (ap.endLine == pos.line) = true) (h3 : conX a = true) (h4 : plainX b = true) (ha : PE X a (tE (fm X O lo W) ea)) (hb : PE X b (tE (fm X O lo W) eb)) :
    PE X (.Call (.Attribute a m ap) [b] [] pos) (tE (fm X O lo W) (.join ea eb)) := by
  subst h1
  refine PE_imp (pe_join ha hb (star_of h4 _ _) (base_of h3 _ _) h2) ?_
  rintro σ H Q ⟨env, ρ, S, Y, fs, po⟩
  simp only [ev] at po
  refine ⟨env, ρ, S, Y, fs, Po.bind po fun x S1 v H1 _ st1 cf1 rw1 h1 => ?_⟩
  obtain ⟨s, e0, h1⟩ := Po.orNo h1
  have ev : v = .str s := by
    cases x with
    | r n => cases e0
    | d x => cases x <;> simp [asS] at e0; subst e0; cases rw1; rfl
  refine ⟨⟨s, ev⟩, env, ρ, S1, Y, fs.step st1 cf1, Po.bind h1 fun y S2 u H2 _ st2 cf2 rw2 h2 => ?_⟩
  obtain ⟨y', e1, h2⟩ := Po.orNo h2
  obtain ⟨ys, e2, h2⟩ := Po.orNo h2
  obtain ⟨zs, e3, h2⟩ := Po.orNo h2
  obtain ⟨z, e4, h2⟩ := Po.orNo h2
  have vw := Vw.of cf2 rw2 e1
  cases y' <;> simp [asL] at e2
  subst e2
  obtain ⟨p, vs, rfl, sq, rr⟩ := vw.list
  have e5 := rr.strsOf e3
  subst e5
  unfold joinD at e4
  split at e4
  · rename_i hz
    cases e4
    refine ⟨s, p, zs, ev, rfl, .inl sq, by have := lim_eq; have := sizeLine_eq; omega, ?_⟩
    rw [show Txt.join s zs = Str.join s zs from StrLaws.glued_eq_join ..]
    exact h2 _ H2 Ste.refl cf2 (.str _)
  · cases e4
end
end Rf
namespace Rf
open PySem PySem.Spec PyProof.Rows L2
/-! max and min with a default -/
theorem mx_args (a d : Value) : argsOk "max" ⟨[a], [(Str.ofString "default", d)]⟩ := by unfold argsOk; kernel_rfl
theorem mn_args (a d : Value) : argsOk "min" ⟨[a], [(Str.ofString "default", d)]⟩ := by unfold argsOk; kernel_rfl
section
variable {prog : Program} {w : World} {A : Around} {R : Result → Shared → Prop} {I S : Addr} {fp wr : List Addr} {n : Nat} {P : Nat → Value → Prop} {St : Nat → Heap → Prop} {dv : Value} {bt : Nat → Nat → Bool}
def kwD (dv : Value) : List (Str × Value) := [(Str.ofString "default", dv)]
def bestO (v : Value) (c : Nat) : Obj := { cls := .type "list", dict := none, data := .seq #[v, v] c, slots := #[] }
def noneO (c : Nat) : Obj := { cls := .type "list", dict := none, data := .seq #[] c, slots := #[] }
/-- some items are seen, the best of them is kept in S -/
theorem mx_on (W : Walks prog w A.in1 I fp wr n P St) (hcmp : CmpOf prog w A.in1 .Gt P bt) (nS : S ∉ fp) {s0 : Shared}
    (fin : ∀ v hp t, P (argBest bt (n - 1)) v → (∀ b o, b ∉ wr → b ≠ S → s0.heap.get? b = some o → hp.get? b = some o) → R (.ok (.ret v)) { s0 with heap := hp, toks := t }) :
    ∀ (left i : Nat) (hp : Heap) (t : Nat) (best : Value) (c : Nat), i + 1 + left = n → St (i + 1) hp → P (argBest bt i) best → hp.get? S = some (bestO best c) → (∀ b o, b ∉ wr → b ≠ S → s0.heap.get? b = some o → hp.get? b = some o) →
      codeAny (model prog w) A (.builtin "max.loop" ⟨[.ref I, .none, .ref S], kwD dv⟩) R { s0 with heap := hp, toks := t } := by
  have nW : S ∉ wr := fun q => nS (W.sub _ q)
  have nm : (toString "max" ++ toString ".loop" : String) = "max.loop" := by decide
  intro left
  induction left with
  | zero =>
    intro i hp t best c hi hst hb hS kp
    refine codeAny_builtin F.entry_max_loop ?_
    rw [Around.under_plainId F.plain_max_loop]
    show wpAny _ A.in1 (seqItems? (.ref S) >>= _) _ _ _
    refine wpAny_bind (wpAny_seqItems hS rfl ?_)
    show wpAny _ A.in1 (tryCatch (pyNext (.ref I)) _ >>= _) _ _ _
    have e0 : i + 1 = n := by omega
    rw [e0] at hst
    refine wpAny_bind (wpAny_tryCatch (W.done { s0 with heap := hp, toks := t } _ _ hst fun h2 t2 k2 => ?_))
    have hS2 := k2 S _ nW hS
    show wpAny _ A.in1 (updateSeq S (fun _ => #[]) >>= _) _ _ _
    refine wpAny_bind (wpAny_updateSeq hS2 rfl (wpAny_bind (wpAny_letGo (wpAny_pure ?_))))
    have e1 : i = n - 1 := by omega
    rw [e1] at hb
    refine fin best _ t2 hb fun b o hw hs e => ?_
    exact (Heap.get?_update_other _ _ fun q => hs q.symm).trans (k2 b o hw (kp b o hw hs e))
  | succ left ih =>
    intro i hp t best c hi hst hb hS kp
    refine codeAny_builtin F.entry_max_loop ?_
    rw [Around.under_plainId F.plain_max_loop]
    show wpAny _ A.in1 (seqItems? (.ref S) >>= _) _ _ _
    refine wpAny_bind (wpAny_seqItems hS rfl ?_)
    show wpAny _ A.in1 (tryCatch (pyNext (.ref I)) _ >>= _) _ _ _
    have hin : i + 1 < n := by omega
    refine wpAny_bind (wpAny_tryCatch (W.item (i + 1) { s0 with heap := hp, toks := t } _ _ hin hst fun v h2 t2 hv st2 k2 => ?_))
    have hS2 := k2 S _ nW hS
    show wpAny _ A.in1 (tryCatch (holding [v, v] (richCompare .Gt v best >>= _)) _ >>= _) _ _ _
    refine wpAny_bind (wpAny_tryCatch (wpAny_holding (wpAny_bind (hcmp (i + 1) (argBest bt i) v best _ _ _ hv hb ?_))))
    refine wpAny_bind (wpAny_holding (wpAny_truthy_bool ?_))
    refine wpAny_bind (wpAny_letGo (wpAny_pure ?_))
    cases q : bt (i + 1) (argBest bt i) with
    | false =>
      have e2 : argBest bt (i + 1) = argBest bt i := by
        show (if bt (i + 1) (argBest bt i) = true then _ else _) = _
        rw [if_neg (by rw [q]; exact Bool.false_ne_true)]
      simp only [Bool.false_eq_true, if_false]
      refine wpAny_bind (wpAny_letGo ?_)
      rw [nm]
      exact wpAny_pure ⟨plainId_quiet F.plain_max_loop _, ih (i + 1) _ _ best c (by omega) st2 (by rw [e2]; exact hb) hS2 fun b o hw hs e => k2 b o hw (kp b o hw hs e)⟩
    | true =>
      have e2 : argBest bt (i + 1) = i + 1 := by
        show (if bt (i + 1) (argBest bt i) = true then _ else _) = _
        rw [if_pos q]
      simp only [if_true]
      refine wpAny_bind (wpAny_updateSeq hS2 rfl (wpAny_bind (wpAny_letGo ?_)))
      rw [nm]
      have st3 : St (i + 1 + 1) (h2.update S (Obj.mapSeq fun _ => #[v, v])) := W.frame _ _ _ st2 fun b hb o e => (Heap.get?_update_other _ _ fun q : S = b => nS (q ▸ hb)).trans e
      refine wpAny_pure ⟨plainId_quiet F.plain_max_loop _, ih (i + 1) _ _ v _ (by omega) st3 (by rw [e2]; exact hv) (Heap.get?_update_self _ hS2 rfl) fun b o hw hs e => ?_⟩
      exact (Heap.get?_update_other _ _ fun q => hs q.symm).trans (k2 b o hw (kp b o hw hs e))
/-- the first turn, or none -/
theorem mx_first (W : Walks prog w A.in1 I fp wr n P St) (hcmp : CmpOf prog w A.in1 .Gt P bt) (nS : S ∉ fp) {s0 : Shared} {c : Nat} (hst : St 0 s0.heap) (hS : s0.heap.get? S = some (noneO c))
    (fin : ∀ v hp t, (n = 0 → v = dv) → (0 < n → P (argBest bt (n - 1)) v) → (∀ b o, b ∉ wr → b ≠ S → s0.heap.get? b = some o → hp.get? b = some o) → R (.ok (.ret v)) { s0 with heap := hp, toks := t }) :
    codeAny (model prog w) A (.builtin "max.loop" ⟨[.ref I, .none, .ref S], kwD dv⟩) R s0 := by
  have nW : S ∉ wr := fun q => nS (W.sub _ q)
  have nm : (toString "max" ++ toString ".loop" : String) = "max.loop" := by decide
  refine codeAny_builtin F.entry_max_loop ?_
  rw [Around.under_plainId F.plain_max_loop]
  show wpAny _ A.in1 (seqItems? (.ref S) >>= _) _ _ _
  refine wpAny_bind (wpAny_seqItems hS rfl ?_)
  show wpAny _ A.in1 (tryCatch (pyNext (.ref I)) _ >>= _) _ _ _
  rcases Nat.eq_zero_or_pos n with z | z
  · have hst' := hst
    rw [← z] at hst'
    refine wpAny_bind (wpAny_tryCatch (W.done s0 _ _ hst' fun h2 t2 k2 => ?_))
    show wpAny _ A.in1 (rule _ >>= _) _ _ _
    refine wpAny_bind (wpAny_rule (wpAny_pure ?_))
    exact fin dv h2 t2 (fun _ => rfl) (fun q => absurd q (by omega)) fun b o hw _ e => k2 b o hw e
  · refine wpAny_bind (wpAny_tryCatch (W.item 0 s0 _ _ z hst fun v h2 t2 hv st2 k2 => ?_))
    have hS2 := k2 S _ nW hS
    show wpAny _ A.in1 (updateSeq S (fun _ => #[v, v]) >>= _) _ _ _
    refine wpAny_bind (wpAny_updateSeq hS2 rfl ?_)
    rw [nm]
    have st3 : St (0 + 1) (h2.update S (Obj.mapSeq fun _ => #[v, v])) := W.frame _ _ _ st2 fun b hb o e => (Heap.get?_update_other _ _ fun q : S = b => nS (q ▸ hb)).trans e
    refine wpAny_pure ⟨plainId_quiet F.plain_max_loop _, mx_on (s0 := s0) W hcmp nS (fun v hp t hv kp => fin v hp t (fun q => absurd z (by omega)) (fun _ => hv) kp) (n - 1) 0 _ _ v _ (by omega) st3 hv (Heap.get?_update_self _ hS2 rfl) fun b o hw hs e => ?_⟩
    exact (Heap.get?_update_other _ _ fun q => hs q.symm).trans (k2 b o hw e)
end
section
variable {prog : Program} {w : World} {A : Around} {E : Value → Shared → Prop} {s : Shared} {l : Addr} {xs : Array (Int × Tok)} {dv : Value}
theorem mx_list {Q : Value → Shared → Prop} (hh : A.handled = none) (hl : s.heap.IsList l (intItems xs))
    (h : ∀ v hp t, (xs.size = 0 → v = dv) → (0 < xs.size → (intItems xs)[argBest (fun i j => decide (numAt xs i > numAt xs j)) (xs.size - 1)]? = some v) → (∀ b o, s.heap.get? b = some o → hp.get? b = some o) → Q v { s with heap := hp, toks := t }) :
    wpAny (model prog w) A (call (.builtin "max") [.ref l] (kwD dv)) Q E s := by
  have nm : (toString "max" ++ toString ".loop" : String) = "max.loop" := by decide
  refine kmk_tree F.kind_max F.plain_max F.entry_max (mx_args _ _) ?_
  show wpAny _ A.in1 (Builtin.Builtins.bindParams "max" ["key", "default"] 0 ⟨[], kwD dv⟩ >>= _) _ _ s
  refine wpAny_bind (wpAny_of_eq (show Builtin.Builtins.bindParams "max" ["key", "default"] 0 ⟨[], kwD dv⟩ = pure [none, some dv] from rfl) ?_)
  refine wpAny_bind (wpAny_pure ?_)
  refine wpAny_bind (iter_intList hl fun s2 e2 st fp ne => ?_)
  subst e2
  refine wpAny_bind (wpAny_newObj_type ?_)
  rw [nm]
  have W := Walks.list (prog := prog) (w := w) (A := A.in1) hh s.heap.objs.size l ne (intItems xs)
  refine wpAny_pure ⟨plainId_quiet F.plain_max_loop _, mx_first (bt := fun i j => decide (numAt xs i > numAt xs j)) W (CmpOf.ints_gt (numAt xs) (fun _ _ => intItems_at)) (fun hm => Nat.lt_irrefl _ (fp _ hm)) (W.frame _ _ _ st fun b _ o e => Heap.get?_push_of_some _ e) (Heap.get?_push_size _ rfl) fun v hp t z1 z2 kp => ?_⟩
  refine h v hp t (fun q => z1 (by simpa [intItems] using q)) (fun q => ?_) (old_kept fun b o hb e => kp b o hb (Nat.ne_of_lt (Heap.lt_size e)) (Heap.get?_push_of_some _ e))
  simpa [intItems] using z2 (by simpa [intItems] using q)
end
section
variable {prog : Program} {w : World} {A : Around} {E : Value → Shared → Prop} {s : Shared} {l : Addr} {its : List Value} {ns : List Int} {dv : Value}
theorem mx_raw {Q : Value → Shared → Prop} (hh : A.handled = none) (hl : s.heap.IsList l its.toArray) (hi : IntsAre its ns)
    (h : ∀ v hp t, (ns = [] → v = dv) → (0 < ns.length → ∃ m tk, v = .int m tk ∧ m ∈ ns ∧ ∀ y, y ∈ ns → y ≤ m) → (∀ b o, s.heap.get? b = some o → hp.get? b = some o) → Q v { s with heap := hp, toks := t }) :
    wpAny (model prog w) A (call (.builtin "max") [.ref l] (kwD dv)) Q E s := by
  obtain ⟨xs, e⟩ := hi.allInts.items
  have hn : numsOf (intItems xs).toList = ns := by rw [← e]; exact hi.numsOf
  rw [nums_intItems] at hn
  subst hn
  rw [e] at hl
  refine mx_list hh hl fun v hp t z1 z2 kp => h v hp t (fun q => z1 (by simpa using q)) (fun q => ?_) kp
  have hsz : 0 < xs.size := by simpa using q
  obtain ⟨tk, rfl⟩ := intItems_at (z2 hsz)
  obtain ⟨h1, h2⟩ := argBest_gt (numAt xs) (xs.size - 1)
  refine ⟨_, tk, rfl, ?_, fun a ha => ?_⟩
  · rw [numAt_eq]; exact PySem.getD_mem (by rw [List.length_map, Array.length_toList]; omega)
  · obtain ⟨j, hj, rfl⟩ := mem_getD ha
    rw [List.length_map, Array.length_toList] at hj
    rw [← numAt_eq]; exact h2 j (by omega)
end
section
variable {X : Cx} {x : Str} {p pos kp : Pos} {e d : Expr} {t : TA} {td : TE}
def tMxD (K : PySem.W.Frag) (t : TA) (td : TE) : TE := fun σ H Q => t σ H fun vs H1 => td σ H1 fun z H2 => ∃ (a : Addr) (ns : List Int), vs = [V.ref a] ∧ SqL K H2 a (ns.map V.int) ∧ (ns = [] → Q z H2) ∧ (0 < ns.length → ∀ m, m ∈ ns → (∀ y, y ∈ ns → y ≤ m) → Q (.int m) H2)
theorem pe_mxD (hc : X.calm = true) (hg : Gl X x) (hm : X.mg x = none) (hv : bootBuiltins x = some (.builtin "max")) (ha : PA X [e] t) (hd : PE X d td) (hn : x ≠ "__name__") (hdb : (x == ("__debug__" : Str)) = false) (he : plainX e = true) :
    PE X (.Call (.Name x p) [e] [⟨some "default", d, kp⟩] pos) (tMxD X.K t td) := by
  refine ⟨fun pins s σ H Q I h => ?_⟩
  refine wpAny_Call_Name_kw (ld_blt I hg hm hv ?_ hn hdb)
  refine PySem.W.callWith_of (P := fun _ => True) (by rw [back_of (es := [e]) (by show (plainX e && true) = true; rw [he]; rfl)]; rfl) (fun h _ => ⟨.machine, .inr (.inl rfl), .now⟩) (evalArgs_kw2 (by rfl) (thn (ha.run pos pins s σ H _ I h) fun us s1 ⟨vs, H1, I1, r1, q1⟩ => ?_) (star_of he _ _))
  refine thn ((pk_cons (nm := some "default") (kpos := kp) hd pk_nil).run pos pins s1 σ H1 (fun zs H2 => match zs with | [z] => ∃ (a : Addr) (ns : List Int), vs = [V.ref a] ∧ SqL X.K H2 a (ns.map V.int) ∧ (ns = [] → Q z H2) ∧ (0 < ns.length → ∀ m, m ∈ ns → (∀ y, y ∈ ns → y ≤ m) → Q (.int m) H2) | _ => False) I1 ?_) fun zs s2 ⟨vz, H2, I2, rz, q2⟩ => ⟨True.intro, ?_⟩
  · exact q1
  · match vz, rz, q2 with
    | [z], rz, q2 =>
      obtain ⟨a, ns, rfl, hs, h1, h2⟩ := q2
      obtain ⟨dv, rfl, rz2⟩ := vals1 rz
      rw [Vals.ref1 r1]
      obtain ⟨its, rv, hl, _⟩ := I2.list hs
      refine mx_raw (dv := dv) (I2.ok.hd hc) hl.isList rv.ints fun v hp t z1 z2 k => ?_
      cases ns with
      | nil => exact ⟨z, H2, I2.kept k, by rw [z1 rfl]; exact rz2, h1 rfl⟩
      | cons n r =>
        obtain ⟨m, tk, rfl, g1, g2⟩ := z2 (by simp)
        exact ⟨.int m, H2, I2.kept k, ⟨tk, rfl⟩, h2 (by simp) m g1 g2⟩
end
section
variable {prog : Program} {w : World} {A : Around} {R : Result → Shared → Prop} {I S : Addr} {fp wr : List Addr} {n : Nat} {P : Nat → Value → Prop} {St : Nat → Heap → Prop} {dv : Value} {bt : Nat → Nat → Bool}
/-- some items are seen, the best of them is kept in S -/
theorem mn_on (W : Walks prog w A.in1 I fp wr n P St) (hcmp : CmpOf prog w A.in1 .Lt P bt) (nS : S ∉ fp) {s0 : Shared}
    (fin : ∀ v hp t, P (argBest bt (n - 1)) v → (∀ b o, b ∉ wr → b ≠ S → s0.heap.get? b = some o → hp.get? b = some o) → R (.ok (.ret v)) { s0 with heap := hp, toks := t }) :
    ∀ (left i : Nat) (hp : Heap) (t : Nat) (best : Value) (c : Nat), i + 1 + left = n → St (i + 1) hp → P (argBest bt i) best → hp.get? S = some (bestO best c) → (∀ b o, b ∉ wr → b ≠ S → s0.heap.get? b = some o → hp.get? b = some o) →
      codeAny (model prog w) A (.builtin "min.loop" ⟨[.ref I, .none, .ref S], kwD dv⟩) R { s0 with heap := hp, toks := t } := by
  have nW : S ∉ wr := fun q => nS (W.sub _ q)
  have nm : (toString "min" ++ toString ".loop" : String) = "min.loop" := by decide
  intro left
  induction left with
  | zero =>
    intro i hp t best c hi hst hb hS kp
    refine codeAny_builtin F.entry_min_loop ?_
    rw [Around.under_plainId F.plain_min_loop]
    show wpAny _ A.in1 (seqItems? (.ref S) >>= _) _ _ _
    refine wpAny_bind (wpAny_seqItems hS rfl ?_)
    show wpAny _ A.in1 (tryCatch (pyNext (.ref I)) _ >>= _) _ _ _
    have e0 : i + 1 = n := by omega
    rw [e0] at hst
    refine wpAny_bind (wpAny_tryCatch (W.done { s0 with heap := hp, toks := t } _ _ hst fun h2 t2 k2 => ?_))
    have hS2 := k2 S _ nW hS
    show wpAny _ A.in1 (updateSeq S (fun _ => #[]) >>= _) _ _ _
    refine wpAny_bind (wpAny_updateSeq hS2 rfl (wpAny_bind (wpAny_letGo (wpAny_pure ?_))))
    have e1 : i = n - 1 := by omega
    rw [e1] at hb
    refine fin best _ t2 hb fun b o hw hs e => ?_
    exact (Heap.get?_update_other _ _ fun q => hs q.symm).trans (k2 b o hw (kp b o hw hs e))
  | succ left ih =>
    intro i hp t best c hi hst hb hS kp
    refine codeAny_builtin F.entry_min_loop ?_
    rw [Around.under_plainId F.plain_min_loop]
    show wpAny _ A.in1 (seqItems? (.ref S) >>= _) _ _ _
    refine wpAny_bind (wpAny_seqItems hS rfl ?_)
    show wpAny _ A.in1 (tryCatch (pyNext (.ref I)) _ >>= _) _ _ _
    have hin : i + 1 < n := by omega
    refine wpAny_bind (wpAny_tryCatch (W.item (i + 1) { s0 with heap := hp, toks := t } _ _ hin hst fun v h2 t2 hv st2 k2 => ?_))
    have hS2 := k2 S _ nW hS
    show wpAny _ A.in1 (tryCatch (holding [v, v] (richCompare .Lt v best >>= _)) _ >>= _) _ _ _
    refine wpAny_bind (wpAny_tryCatch (wpAny_holding (wpAny_bind (hcmp (i + 1) (argBest bt i) v best _ _ _ hv hb ?_))))
    refine wpAny_bind (wpAny_holding (wpAny_truthy_bool ?_))
    refine wpAny_bind (wpAny_letGo (wpAny_pure ?_))
    cases q : bt (i + 1) (argBest bt i) with
    | false =>
      have e2 : argBest bt (i + 1) = argBest bt i := by
        show (if bt (i + 1) (argBest bt i) = true then _ else _) = _
        rw [if_neg (by rw [q]; exact Bool.false_ne_true)]
      simp only [Bool.false_eq_true, if_false]
      refine wpAny_bind (wpAny_letGo ?_)
      rw [nm]
      exact wpAny_pure ⟨plainId_quiet F.plain_min_loop _, ih (i + 1) _ _ best c (by omega) st2 (by rw [e2]; exact hb) hS2 fun b o hw hs e => k2 b o hw (kp b o hw hs e)⟩
    | true =>
      have e2 : argBest bt (i + 1) = i + 1 := by
        show (if bt (i + 1) (argBest bt i) = true then _ else _) = _
        rw [if_pos q]
      simp only [if_true]
      refine wpAny_bind (wpAny_updateSeq hS2 rfl (wpAny_bind (wpAny_letGo ?_)))
      rw [nm]
      have st3 : St (i + 1 + 1) (h2.update S (Obj.mapSeq fun _ => #[v, v])) := W.frame _ _ _ st2 fun b hb o e => (Heap.get?_update_other _ _ fun q : S = b => nS (q ▸ hb)).trans e
      refine wpAny_pure ⟨plainId_quiet F.plain_min_loop _, ih (i + 1) _ _ v _ (by omega) st3 (by rw [e2]; exact hv) (Heap.get?_update_self _ hS2 rfl) fun b o hw hs e => ?_⟩
      exact (Heap.get?_update_other _ _ fun q => hs q.symm).trans (k2 b o hw (kp b o hw hs e))
/-- the first turn, or none -/
theorem mn_first (W : Walks prog w A.in1 I fp wr n P St) (hcmp : CmpOf prog w A.in1 .Lt P bt) (nS : S ∉ fp) {s0 : Shared} {c : Nat} (hst : St 0 s0.heap) (hS : s0.heap.get? S = some (noneO c))
    (fin : ∀ v hp t, (n = 0 → v = dv) → (0 < n → P (argBest bt (n - 1)) v) → (∀ b o, b ∉ wr → b ≠ S → s0.heap.get? b = some o → hp.get? b = some o) → R (.ok (.ret v)) { s0 with heap := hp, toks := t }) :
    codeAny (model prog w) A (.builtin "min.loop" ⟨[.ref I, .none, .ref S], kwD dv⟩) R s0 := by
  have nW : S ∉ wr := fun q => nS (W.sub _ q)
  have nm : (toString "min" ++ toString ".loop" : String) = "min.loop" := by decide
  refine codeAny_builtin F.entry_min_loop ?_
  rw [Around.under_plainId F.plain_min_loop]
  show wpAny _ A.in1 (seqItems? (.ref S) >>= _) _ _ _
  refine wpAny_bind (wpAny_seqItems hS rfl ?_)
  show wpAny _ A.in1 (tryCatch (pyNext (.ref I)) _ >>= _) _ _ _
  rcases Nat.eq_zero_or_pos n with z | z
  · have hst' := hst
    rw [← z] at hst'
    refine wpAny_bind (wpAny_tryCatch (W.done s0 _ _ hst' fun h2 t2 k2 => ?_))
    show wpAny _ A.in1 (rule _ >>= _) _ _ _
    refine wpAny_bind (wpAny_rule (wpAny_pure ?_))
    exact fin dv h2 t2 (fun _ => rfl) (fun q => absurd q (by omega)) fun b o hw _ e => k2 b o hw e
  · refine wpAny_bind (wpAny_tryCatch (W.item 0 s0 _ _ z hst fun v h2 t2 hv st2 k2 => ?_))
    have hS2 := k2 S _ nW hS
    show wpAny _ A.in1 (updateSeq S (fun _ => #[v, v]) >>= _) _ _ _
    refine wpAny_bind (wpAny_updateSeq hS2 rfl ?_)
    rw [nm]
    have st3 : St (0 + 1) (h2.update S (Obj.mapSeq fun _ => #[v, v])) := W.frame _ _ _ st2 fun b hb o e => (Heap.get?_update_other _ _ fun q : S = b => nS (q ▸ hb)).trans e
    refine wpAny_pure ⟨plainId_quiet F.plain_min_loop _, mn_on (s0 := s0) W hcmp nS (fun v hp t hv kp => fin v hp t (fun q => absurd z (by omega)) (fun _ => hv) kp) (n - 1) 0 _ _ v _ (by omega) st3 hv (Heap.get?_update_self _ hS2 rfl) fun b o hw hs e => ?_⟩
    exact (Heap.get?_update_other _ _ fun q => hs q.symm).trans (k2 b o hw e)
end
section
variable {prog : Program} {w : World} {A : Around} {E : Value → Shared → Prop} {s : Shared} {l : Addr} {xs : Array (Int × Tok)} {dv : Value}
theorem mn_list {Q : Value → Shared → Prop} (hh : A.handled = none) (hl : s.heap.IsList l (intItems xs))
    (h : ∀ v hp t, (xs.size = 0 → v = dv) → (0 < xs.size → (intItems xs)[argBest (fun i j => decide (numAt xs i < numAt xs j)) (xs.size - 1)]? = some v) → (∀ b o, s.heap.get? b = some o → hp.get? b = some o) → Q v { s with heap := hp, toks := t }) :
    wpAny (model prog w) A (call (.builtin "min") [.ref l] (kwD dv)) Q E s := by
  have nm : (toString "min" ++ toString ".loop" : String) = "min.loop" := by decide
  refine kmk_tree F.kind_min F.plain_min F.entry_min (mn_args _ _) ?_
  show wpAny _ A.in1 (Builtin.Builtins.bindParams "min" ["key", "default"] 0 ⟨[], kwD dv⟩ >>= _) _ _ s
  refine wpAny_bind (wpAny_of_eq (show Builtin.Builtins.bindParams "min" ["key", "default"] 0 ⟨[], kwD dv⟩ = pure [none, some dv] from rfl) ?_)
  refine wpAny_bind (wpAny_pure ?_)
  refine wpAny_bind (iter_intList hl fun s2 e2 st fp ne => ?_)
  subst e2
  refine wpAny_bind (wpAny_newObj_type ?_)
  rw [nm]
  have W := Walks.list (prog := prog) (w := w) (A := A.in1) hh s.heap.objs.size l ne (intItems xs)
  refine wpAny_pure ⟨plainId_quiet F.plain_min_loop _, mn_first (bt := fun i j => decide (numAt xs i < numAt xs j)) W (CmpOf.ints_lt (numAt xs) (fun _ _ => intItems_at)) (fun hm => Nat.lt_irrefl _ (fp _ hm)) (W.frame _ _ _ st fun b _ o e => Heap.get?_push_of_some _ e) (Heap.get?_push_size _ rfl) fun v hp t z1 z2 kp => ?_⟩
  refine h v hp t (fun q => z1 (by simpa [intItems] using q)) (fun q => ?_) (old_kept fun b o hb e => kp b o hb (Nat.ne_of_lt (Heap.lt_size e)) (Heap.get?_push_of_some _ e))
  simpa [intItems] using z2 (by simpa [intItems] using q)
end
section
variable {prog : Program} {w : World} {A : Around} {E : Value → Shared → Prop} {s : Shared} {l : Addr} {its : List Value} {ns : List Int} {dv : Value}
theorem mn_raw {Q : Value → Shared → Prop} (hh : A.handled = none) (hl : s.heap.IsList l its.toArray) (hi : IntsAre its ns)
    (h : ∀ v hp t, (ns = [] → v = dv) → (0 < ns.length → ∃ m tk, v = .int m tk ∧ m ∈ ns ∧ ∀ y, y ∈ ns → m ≤ y) → (∀ b o, s.heap.get? b = some o → hp.get? b = some o) → Q v { s with heap := hp, toks := t }) :
    wpAny (model prog w) A (call (.builtin "min") [.ref l] (kwD dv)) Q E s := by
  obtain ⟨xs, e⟩ := hi.allInts.items
  have hn : numsOf (intItems xs).toList = ns := by rw [← e]; exact hi.numsOf
  rw [nums_intItems] at hn
  subst hn
  rw [e] at hl
  refine mn_list hh hl fun v hp t z1 z2 kp => h v hp t (fun q => z1 (by simpa using q)) (fun q => ?_) kp
  have hsz : 0 < xs.size := by simpa using q
  obtain ⟨tk, rfl⟩ := intItems_at (z2 hsz)
  obtain ⟨h1, h2⟩ := argBest_lt (numAt xs) (xs.size - 1)
  refine ⟨_, tk, rfl, ?_, fun a ha => ?_⟩
  · rw [numAt_eq]; exact PySem.getD_mem (by rw [List.length_map, Array.length_toList]; omega)
  · obtain ⟨j, hj, rfl⟩ := mem_getD ha
    rw [List.length_map, Array.length_toList] at hj
    rw [← numAt_eq]; exact h2 j (by omega)
end
section
variable {X : Cx} {x : Str} {p pos kp : Pos} {e d : Expr} {t : TA} {td : TE}
def tMnD (K : PySem.W.Frag) (t : TA) (td : TE) : TE := fun σ H Q => t σ H fun vs H1 => td σ H1 fun z H2 => ∃ (a : Addr) (ns : List Int), vs = [V.ref a] ∧ SqL K H2 a (ns.map V.int) ∧ (ns = [] → Q z H2) ∧ (0 < ns.length → ∀ m, m ∈ ns → (∀ y, y ∈ ns → m ≤ y) → Q (.int m) H2)
theorem pe_mnD (hc : X.calm = true) (hg : Gl X x) (hm : X.mg x = none) (hv : bootBuiltins x = some (.builtin "min")) (ha : PA X [e] t) (hd : PE X d td) (hn : x ≠ "__name__") (hdb : (x == ("__debug__" : Str)) = false) (he : plainX e = true) :
    PE X (.Call (.Name x p) [e] [⟨some "default", d, kp⟩] pos) (tMnD X.K t td) := by
  refine ⟨fun pins s σ H Q I h => ?_⟩
  refine wpAny_Call_Name_kw (ld_blt I hg hm hv ?_ hn hdb)
  refine PySem.W.callWith_of (P := fun _ => True) (by rw [back_of (es := [e]) (by show (plainX e && true) = true; rw [he]; rfl)]; rfl) (fun h _ => ⟨.machine, .inr (.inl rfl), .now⟩) (evalArgs_kw2 (by rfl) (thn (ha.run pos pins s σ H _ I h) fun us s1 ⟨vs, H1, I1, r1, q1⟩ => ?_) (star_of he _ _))
  refine thn ((pk_cons (nm := some "default") (kpos := kp) hd pk_nil).run pos pins s1 σ H1 (fun zs H2 => match zs with | [z] => ∃ (a : Addr) (ns : List Int), vs = [V.ref a] ∧ SqL X.K H2 a (ns.map V.int) ∧ (ns = [] → Q z H2) ∧ (0 < ns.length → ∀ m, m ∈ ns → (∀ y, y ∈ ns → m ≤ y) → Q (.int m) H2) | _ => False) I1 ?_) fun zs s2 ⟨vz, H2, I2, rz, q2⟩ => ⟨True.intro, ?_⟩
  · exact q1
  · match vz, rz, q2 with
    | [z], rz, q2 =>
      obtain ⟨a, ns, rfl, hs, h1, h2⟩ := q2
      obtain ⟨dv, rfl, rz2⟩ := vals1 rz
      rw [Vals.ref1 r1]
      obtain ⟨its, rv, hl, _⟩ := I2.list hs
      refine mn_raw (dv := dv) (I2.ok.hd hc) hl.isList rv.ints fun v hp t z1 z2 k => ?_
      cases ns with
      | nil => exact ⟨z, H2, I2.kept k, by rw [z1 rfl]; exact rz2, h1 rfl⟩
      | cons n r =>
        obtain ⟨m, tk, rfl, g1, g2⟩ := z2 (by simp)
        exact ⟨.int m, H2, I2.kept k, ⟨tk, rfl⟩, h2 (by simp) m g1 g2⟩
end
end Rf
namespace Rf
open PySem PySem.Spec PyProof.Rows L2
section
variable {X : Cx} {O : Orc} {k : Ck} {sc so : Scope} {lo : Nat} {W : WX} {a b c d : Expr} {ea eb ec ed : E} {pos : Pos}
theorem maxL_is : ∀ (r : List Int) (a : Int), maxL a r ∈ a :: r ∧ ∀ y ∈ a :: r, y ≤ maxL a r
  | [], a => by simp [maxL]
  | b :: r, a => by
    obtain ⟨h1, h2⟩ := maxL_is r (if a < b then b else a)
    simp only [maxL]
    refine ⟨?_, fun y hy => ?_⟩
    · rcases List.mem_cons.mp h1 with e | e
      · rw [e]; split <;> simp
      · simp [e]
    · have h3 := h2 _ (List.mem_cons_self ..)
      rcases List.mem_cons.mp hy with rfl | hy
      · refine Int.le_trans ?_ h3; split <;> omega
      · rcases List.mem_cons.mp hy with rfl | hy
        · refine Int.le_trans ?_ h3; split <;> omega
        · exact h2 y (List.mem_cons_of_mem _ hy)
theorem minL_is : ∀ (r : List Int) (a : Int), minL a r ∈ a :: r ∧ ∀ y ∈ a :: r, minL a r ≤ y
  | [], a => by simp [minL]
  | b :: r, a => by
    obtain ⟨h1, h2⟩ := minL_is r (if b < a then b else a)
    simp only [minL]
    refine ⟨?_, fun y hy => ?_⟩
    · rcases List.mem_cons.mp h1 with e | e
      · rw [e]; split <;> simp
      · simp [e]
    · have h3 := h2 _ (List.mem_cons_self ..)
      rcases List.mem_cons.mp hy with rfl | hy
      · refine Int.le_trans h3 ?_; split <;> omega
      · rcases List.mem_cons.mp hy with rfl | hy
        · refine Int.le_trans h3 ?_; split <;> omega
        · exact h2 y (List.mem_cons_of_mem _ hy)
theorem s_maxD {mn : Bool} {y : Str} {x z : Expr} {n : Str} {p1 p2 p3 : Pos} (ok : XOk X O k sc so) (h1 : y = mxN mn) (h2 : glB sc y = true) (h3 : n = ("default" : Str)) (h4 : plainX x = true) (ha : PE X x (tE (fm X O lo W) ea)) (hd : PE X z (tE (fm X O lo W) ed)) :
    PE X (.Call (.Name y p1) [x] [⟨some n, z, p2⟩] p3) (tE (fm X O lo W) (.maxD mn ea ed)) := by
  obtain ⟨g1, g2⟩ := ok.gl h2
  subst h3
  have key : ∀ (le : Int → Int → Prop) (best : Int → List Int → Int), (∀ r a, best a r ∈ a :: r ∧ ∀ y ∈ a :: r, le y (best a r)) → (∀ m m', le m m' → le m' m → m = m') → (∀ a r y, maxW mn (a :: r) y = .d (.int (best a r))) → ∀ σ H Q, tE (fm X O lo W) (.maxD mn ea ed) σ H Q →
      (tCons (tE (fm X O lo W) ea) tNil) σ H fun vs H1 => (tE (fm X O lo W) ed) σ H1 fun z H2 => ∃ (a : Addr) (ns : List Int), vs = [V.ref a] ∧ SqL X.K H2 a (ns.map V.int) ∧ (ns = [] → Q z H2) ∧ (0 < ns.length → ∀ m, m ∈ ns → (∀ y, y ∈ ns → le y m) → Q (.int m) H2) := by
    intro le best hb anti hm
    rintro σ H Q ⟨env, ρ, S, Y, fs, po⟩
    simp only [ev] at po
    refine ⟨env, ρ, S, Y, fs, Po.bind po fun x S1 v H1 _ st1 cf1 rw1 h1 => ⟨env, ρ, S1, Y, fs.step st1 cf1, Po.bind h1 fun y S2 u H2 _ st2 cf2 rw2 h2 => ?_⟩⟩
    obtain ⟨x', e1, h2⟩ := Po.orNo h2
    obtain ⟨xs, e2, h2⟩ := Po.orNo h2
    obtain ⟨ns, e3, h2⟩ := Po.orNo h2
    cases x' <;> simp [asL] at e2
    subst e2
    obtain ⟨a, us, rfl, q1, q2⟩ := (Vw.of cf2 (st2.rw' rw1) e1).list
    rw [RpA.intsOf q2 e3] at q1
    refine ⟨a, ns, rfl, q1, fun e => ?_, fun hl m h5 h6 => ?_⟩
    · subst e
      exact h2 u H2 Ste.refl cf2 rw2
    · cases ns with
      | nil => cases hl
      | cons n r =>
        rw [hm] at h2
        obtain ⟨b1, b2⟩ := hb r n
        have : m = best n r := anti _ _ (b2 m h5) (h6 _ b1)
        subst this
        exact h2 _ H2 Ste.refl cf2 (.int _)
  cases mn with
  | false =>
    have hm : X.mg y = none := by rw [h1]; exact ok.bl "max" (by decide)
    refine PE_imp (pe_mxD (t := tCons (tE (fm X O lo W) ea) tNil) ok.calm g1 hm (by rw [h1]; decide +kernel) (pa_cons ha pa_nil (star_of h4 _ _)) hd (by rw [h1]; decide +kernel) g2 h4) ?_
    exact key (fun y m => y ≤ m) maxL maxL_is (fun m m' h1 h2 => by omega) (fun _ _ _ => rfl)
  | true =>
    have hm : X.mg y = none := by rw [h1]; exact ok.bl "min" (by decide)
    refine PE_imp (pe_mnD (t := tCons (tE (fm X O lo W) ea) tNil) ok.calm g1 hm (by rw [h1]; decide +kernel) (pa_cons ha pa_nil (star_of h4 _ _)) hd (by rw [h1]; decide +kernel) g2 h4) ?_
    exact key (fun y m => m ≤ y) minL minL_is (fun m m' h1 h2 => by omega) (fun _ _ _ => rfl)
/-! ### [f, g][i](..) -/
theorem arm_sub (a b : Expr) (sp : Pos) (args : List Expr) (kws : List Keyword) (pos : Pos) (env : PySem.Env) : eval (.Call (.Subscript a b sp) args kws pos) env = (do
    callWith pos (← eval (.Subscript a b sp) env) [] (backTo pos (starEach args env)) (backToKw pos (keywordEach kws env))) := rfl
/-- the def at the address keeps what the oracle says of the name -/
structure DefAt (X : Cx) (O : Orc) (f : String) (a : Addr) : Prop where
  ok : ∃ (fd : FuncData) (k : Nat) (ps : List Str), FnOk X.prog X.w X.K X.mg X.base (L2.CX X.prog X.w) k a fd ps (spD X.w O X.K X.mg f) ∧ Room k X.A ∧ PySem.W.keepIn X.K (.ref a) = true ∧ Binds X.K fd ps []
theorem pe_callX {tf : TE} {t : TA} {e : Expr} {es : List Expr} {sp : Pos} (hf : PE X (.Subscript a b sp) tf) (tk : Takes X W) (ha : PA X (e :: es) t) (he : starEach (e :: es) X.env = (false, eval e X.env) :: starEach es X.env) (hpl : (backTo pos (starEach es X.env)).any (·.1) = false) :
    PE X (.Call (.Subscript a b sp) (e :: es) [] pos) (fun σ H Q => tf σ H fun v H1 => ∃ f g, v = .ref g ∧ DefAt X O f g ∧ tCallS (spD X.w O X.K X.mg f) (WE W) t σ H1 Q) := by
  refine ⟨fun pins s σ H Q I h => ?_⟩
  rw [arm_sub]
  refine wpAny_bind (thn (hf.run pins s σ H _ I h) fun u s1 ⟨v, H1, I1, r1, q1⟩ => ?_)
  obtain ⟨f, g, rfl, ⟨fd, kk, ps, F, hr, hk, hb⟩, q1⟩ := q1
  obtain rfl : u = Value.ref g := r1
  refine PySem.W.callWith_K (h₀ := X.base) I1.ok.mod.kin hk (thn (ha.run pos pins s1 σ H1 _ I1 q1) fun us s2 ⟨vs, H2, I2, r, q⟩ => ⟨I2.kIn, ?_⟩) he hpl
  exact run_fnS F hr hb (passAt tk σ) I2 r q
theorem pa_fns (ok : XOk X O k sc so) : ∀ {fs : List String} {es : List Expr}, fnsB k sc fs es = true → ∃ as : List Addr, Paired (fun f a => DefAt X O f a) fs as ∧ PA X es (fun σ H Q => Q (as.map V.ref) H)
  | [], [], _ => ⟨[], .nil, PA_imp pa_nil fun σ H Q h => h⟩
  | f :: fs, e :: es, h => by
    match e, h with
    | .Name y p, h =>
      have h : ((y == Str.ofString f) && glB sc y && k.fs.contains f && fnsB k sc fs es) = true := h
      obtain ⟨h, h4⟩ := Bool.and_eq_true_iff.mp h
      obtain ⟨h, h3⟩ := Bool.and_eq_true_iff.mp h
      obtain ⟨h1, h2⟩ := Bool.and_eq_true_iff.mp h
      have h1 : y = Str.ofString f := by simpa using h1
      obtain ⟨as, hp, ha⟩ := pa_fns ok h4
      obtain ⟨g1, g2⟩ := ok.gl h2
      obtain ⟨a, fd, kk, ps, F, hr, hm, hk, hb⟩ := ok.fs f (by simpa using h3)
      subst h1
      exact ⟨a :: as, .cons ⟨fd, kk, ps, F, hr, hk, hb⟩ hp, PA_imp (pa_cons (pe_glob (v := .ref a) g1 hm rfl g2) ha (star_of rfl _ _)) fun σ H Q h => h⟩
theorem paired_at {α β : Type} {P : α → β → Prop} : ∀ {xs : List α} {ys : List β} {i : Nat} {x : α}, Paired P xs ys → xs[i]? = some x → ∃ y, ys[i]? = some y ∧ P x y
  | _, _, _, _, .nil, e => by simp at e
  | _, _, 0, _, .cons a b, e => by simp at e; subst e; exact ⟨_, rfl, a⟩
  | _, _, i + 1, _, .cons a b, e => by
    obtain ⟨y, h1, h2⟩ := paired_at (i := i) b (by simpa using e)
    exact ⟨y, by simpa using h1, h2⟩
theorem paired_len {α β : Type} {P : α → β → Prop} : ∀ {xs : List α} {ys : List β}, Paired P xs ys → xs.length = ys.length
  | _, _, .nil => rfl
  | _, _, .cons a b => by simp [paired_len b]
theorem i_callX {f : String} {eas : Es} {t : TA} {σ : L2.St} {H : Hp} {Q : VK} {env : Env} {ρ : List Addr} {S : Sto} {Y : List Addr} (fs : Fs (fm X O lo W) σ H env ρ S Y) (po : Po (fm X O lo W) ρ Y σ (RW (fm X O lo W) ρ Y) H S ((evs O lo eas env S).bind fun ws S1 => crRes (O f ws S1) S1) Q) : tCallS (spD X.w O X.K X.mg f) (WE W) (tEs (fm X O lo W) eas) σ H Q := by
  refine i_call (t := t) ⟨env, ρ, S, Y, fs, ?_⟩
  simp only [ev]
  exact po
theorem s_callX {fs : List String} {ei : E} {eas : Es} {ns : List Expr} {ix : Expr} {es : List Expr} {p1 p2 : Pos} (ok : XOk X O k sc so) (tk : Takes X W) (h0 : fs.length ≤ 100) (h1 : fnsB k sc fs ns = true) (h2 : plainX ix = true) (h3 : es.isEmpty = false) (h4 : es.all plainX = true)
    (hi : PE X ix (tE (fm X O lo W) ei)) (ha : PA X es (tEs (fm X O lo W) eas)) : PE X (.Call (.Subscript (.List ns p1) ix p2) es [] pos) (tE (fm X O lo W) (.callX fs ei eas)) := by
  obtain ⟨as, hp, hn⟩ := pa_fns ok h1
  cases es with
  | nil => cases h3
  | cons e es =>
    obtain ⟨q1, q2⟩ := Bool.and_eq_true_iff.mp h4
    refine PE_imp (pe_callX (O := O) (pe_ix ix_list (pe_lst hn) hi (plainIx_of h2)) tk ha (star_of q1 _ _) (back_of q2 _ _)) ?_
    rintro σ H Q ⟨env, ρ, S, Y, fs', po⟩
    simp only [ev] at po
    refine ⟨small_of (by rw [List.length_map, ← paired_len hp]; omega), fun p hp0 => ?_⟩
    have sm : Same H (upd H p (.lst (as.map V.ref))) := fun b o e => by rw [upd_ne (ne_of_none e hp0)]; exact e
    refine ⟨env, ρ, S, Y, fs'.step (Ste.of sm) (fs'.cf.grow sm), Po.bind (Po.step po (Ste.of sm)) fun x S1 v H1 _ st1 cf1 rw1 po1 => ?_⟩
    obtain ⟨f, e1, po2⟩ := Po.orNo po1
    cases ei : asI x with
    | none => rw [ei] at e1; cases e1
    | some i =>
      rw [ei] at e1
      have e1 : fnAt fs i = some f := e1
      unfold fnAt at e1
      split at e1
      · rename_i hi0
        obtain ⟨g, eg, da⟩ := paired_at hp e1
        have hsq : SqL X.K H1 p (as.map V.ref) := .inl (.inl (st1.same _ _ upd_same))
        refine ⟨p, as.map V.ref, i, .ref g, rfl, asI_of rw1 ei, hsq, ?_, f, g, rfl, da, i_callX (t := tNil) ((fs'.step (Ste.of sm) (fs'.cf.grow sm)).step st1 cf1) po2⟩
        have hl : i.toNat < as.length := by
          rcases Nat.lt_or_ge i.toNat as.length with z | z
          · exact z
          · rw [List.getElem?_eq_none z] at eg; cases eg
        have hx : ixN (as.map V.ref).length i = some i.toNat := by
          unfold ixN
          rw [if_pos hi0, List.length_map, if_pos (by omega)]
        unfold atI
        rw [hx]
        show (as.map V.ref)[i.toNat]? = _
        rw [List.getElem?_map, eg]; rfl
      · cases e1
end
end Rf
namespace Rf
open PySem PySem.Spec PyProof.Rows L2
/-! ### dicts whose keys are nested tuples: what the heap holds -/
section
variable {X : Cx} {pins : List (Addr × Obj)} {σ : L2.St} {H : Hp} {s : Shared} {M : Pr}
mutual
theorem nk_is (I : Inv X pins σ H s) : ∀ (d : PyData) (v : V) (u : Value) (k : NestedKey), Rp X.K H M v d → RelV v u → nkey d = some k → NestedIs s.heap k u
  | .none, _, u, k, h, r, e => by
    cases h; cases e
    cases (show u = Value.none from r); exact .none
  | .bool b, _, u, k, h, r, e => by
    cases h; cases e
    cases (show u = Value.bool b from r); exact .bool rfl
  | .int i, _, u, k, h, r, e => by
    cases h; cases e
    obtain ⟨t, rfl⟩ := (show ∃ t, u = Value.int i t from r)
    exact .int i t
  | .str x, _, u, k, h, r, e => by
    cases h; cases e
    obtain ⟨t, rfl⟩ := (show ∃ t, u = Value.str x t from r)
    exact .text x t
  | .tuple ds, _, u, k, h, r, e => by
    cases h with
    | tup l q =>
      rename_i a xs
      cases (show u = Value.ref a from r)
      simp only [nkey, Option.map_eq_some_iff] at e
      obtain ⟨ks, e, rfl⟩ := e
      obtain ⟨its, rv, ⟨o, h1, h2, n, h3⟩, _⟩ := I.tuple l
      exact .tup h1 h2 h3 (by simpa using nks_is I ds xs its ks q rv e)
  | .list _, _, _, _, _, _, e => by cases e
  | .dict _, _, _, _, _, _, e => by cases e
theorem nks_is (I : Inv X pins σ H s) : ∀ (ds : List PyData) (vs : List V) (us : List Value) (ks : List NestedKey), RpA X.K H M vs ds → Vals vs us → nkeys ds = some ks → NestedAll s.heap ks us
  | [], _, us, ks, h, r, e => by
    cases h
    cases r
    cases e
    exact .nil
  | d :: ds, _, us, ks, h, r, e => by
    cases h with
    | cons a b =>
      cases r with
      | cons r1 r2 =>
        simp only [nkeys, Option.bind_eq_some_iff, Option.map_eq_some_iff] at e
        obtain ⟨k, e1, ks', e2, rfl⟩ := e
        exact .cons (nk_is I d _ _ k a r1 e1) (nks_is I ds _ _ ks' b r2 e2)
end
end
def valN (xs : List En3) (k : NestedKey) : Option V := (xs.find? fun x => decide (x.1 = k)).map (·.2.2)
def putN (xs : List En3) (k : NestedKey) (a : Addr) (v : V) : List En3 := if (valN xs k).isSome then xs.map (fun x => if x.1 = k then (x.1, x.2.1, v) else x) else xs ++ [(k, a, v)]
/-- the keys are data that may be keys -/
def Nks (K : Frag) (H : Hp) (M : Pr) (xs : List En3) : Prop := ∀ x ∈ xs, ∃ d, Rp K H M (.ref x.2.1) d ∧ nkey d = some x.1 ∧ x.1.depth ≤ 8
theorem KN3.val {xs : List En3} {ys : List (NestedKey × Addr × Value)} (r : KN3 xs ys) (k : NestedKey) : RelO (valN xs k) ((atKey ys k).map (·.2)) := by
  induction r with
  | nil => trivial
  | @cons p q ps qs h t ih =>
    by_cases e : p.1 = k
    · have e2 : q.1 = k := h.1.symm.trans e
      simp only [valN, atKey, List.find?_cons, e, e2, decide_true, Option.map_some]
      exact h.2.2
    · have e2 : ¬ q.1 = k := fun z => e (h.1.trans z)
      simp only [valN, atKey, List.find?_cons, e, e2, decide_false]
      exact ih
theorem KN3.len {xs : List En3} {ys : List (NestedKey × Addr × Value)} (r : KN3 xs ys) : xs.length = ys.length := Paired.length r
theorem KN3.snoc {xs : List En3} {ys : List (NestedKey × Addr × Value)} {p q} (r : KN3 xs ys) (h : p.1 = q.1 ∧ p.2.1 = q.2.1 ∧ RelV p.2.2 q.2.2) : KN3 (xs ++ [p]) (ys ++ [q]) := Paired.snoc r h
theorem KN3.repl {xs : List En3} {ys : List (NestedKey × Addr × Value)} {v : V} {u : Value} (r : KN3 xs ys) (k : NestedKey) (rv : RelV v u) : KN3 (xs.map fun x => if x.1 = k then (x.1, x.2.1, v) else x) (ys.map (putAt k u)) := by
  induction r with
  | nil => exact .nil
  | @cons p q ps qs h t ih =>
    rw [List.map_cons, List.map_cons]
    refine .cons ?_ ih
    by_cases e : p.1 = k
    · have e2 : q.1 = k := h.1.symm.trans e
      rw [if_pos e, putAt, if_pos e2]
      exact ⟨h.1, h.2.1, rv⟩
    · have e2 : ¬ q.1 = k := fun z => e (h.1.trans z)
      rw [if_neg e, putAt, if_neg e2]
      exact h
theorem KN3.put {xs : List En3} {ys : List (NestedKey × Addr × Value)} {v : V} {u : Value} {a : Addr} (r : KN3 xs ys) (k : NestedKey) (rv : RelV v u) : KN3 (putN xs k a v) (storedH ys k a u) := by
  have e : (valN xs k).isSome = (atKey ys k).isSome := by
    have := (r.val k).isSome_eq
    rw [Option.isSome_map] at this
    exact this
  unfold putN storedH
  rw [e]
  by_cases q : (atKey ys k).isSome = true
  · rw [if_pos q, if_pos q]; exact r.repl k rv
  · rw [if_neg q, if_neg q]; exact r.snoc ⟨rfl, rfl, rv⟩
theorem putN_len (xs : List En3) (k : NestedKey) (a : Addr) (v : V) : (putN xs k a v).length ≤ xs.length + 1 := by
  unfold putN; split <;> simp
section
variable {X : Cx} {pins : List (Addr × Obj)} {σ : L2.St} {H : Hp} {s : Shared} {M : Pr} {A : Around} {E : Value → Shared → Prop} {a b : Addr} {xs : List En3} {k : NestedKey} {d : PyData}
theorem key_is (I : Inv X pins σ H s) (h : Rp X.K H M (.ref b) d) (e : nkey d = some k) (hd : k.depth ≤ 8) : (nestedKind X.prog X.w).is s.heap k b := ⟨nk_is I d _ _ k h rfl e, hd⟩
theorem dc_rd (I : Inv X pins σ H s) (e : H a = some (DcO X.w a xs)) (nk : Nks X.K H M xs) : xs.length ≤ sizeLine ∧ (a == sysModules) = false ∧ ∃ ys, KN3 xs ys ∧ s.heap.DictOfH (nestedKind X.prog X.w) a ys := by
  obtain ⟨⟨z, hd, ys, r, o, es, ep, h1, h2, h3, h4, h5⟩, _⟩ := (show ObjOk X.prog X.w H s.heap a (DcO X.w a xs) from I.hok a _ e)
  refine ⟨z, hd, ys, r, o, es, ep, h1, h2, h3, h4, fun y hy => ?_, h5⟩
  have all : ∀ {l : List En3} {m : List (NestedKey × Addr × Value)}, KN3 l m → Nks X.K H M l → ∀ y ∈ m, (nestedKind X.prog X.w).is s.heap y.1 y.2.1 := by
    intro l m q
    induction q with
    | nil => intro _ x hx; exact nomatch hx
    | @cons p q ps qs hq t ih =>
      intro n x hx
      rcases List.mem_cons.mp hx with e | hx
      · subst e
        obtain ⟨d, hd1, hd2, hd3⟩ := n p (List.mem_cons_self ..)
        rw [← hq.1, ← hq.2.1]
        exact key_is I hd1 hd2 hd3
      · exact ih (fun z hz => n z (List.mem_cons_of_mem _ hz)) x hx
  exact all r nk y hy
theorem n_room (hu : A.units + 9 < cLine) : (nestedKind X.prog X.w).room A.in1 := by
  show A.in1.units + 8 < cLine
  have : A.in1.units = A.units + 1 := rfl
  omega
theorem n_getItem {v : V} {Q : Value → Shared → Prop} (hu : A.units + 9 < cLine) (I : Inv X pins σ H s) (e : H a = some (DcO X.w a xs)) (nk : Nks X.K H M xs) (hb : Rp X.K H M (.ref b) d) (hk : nkey d = some k) (h8 : k.depth ≤ 8) (l : valN xs k = some v)
    (h : ∀ w' s', Inv X pins σ H s' → RelV v w' → Q w' s') : wpAny (model X.prog X.w) A (getItem (.ref a) (.ref b)) Q E s := by
  obtain ⟨z, hd, ys, rel, dd⟩ := dc_rd I e nk
  obtain ⟨w', hw, rw'⟩ := RelO.some_of (v := v) (o := (atKey ys k).map (·.2)) (by rw [← l]; exact rel.val k)
  obtain ⟨p, hp, hp2⟩ := Option.map_eq_some_iff.mp hw
  refine wpAny_getItem_heap (n_room hu) (key_is I hb hk h8) dd hp ?_
  rw [hp2]
  exact h w' _ (I.tok _) rw'
theorem n_in {Q : Value → Shared → Prop} (hu : A.units + 9 < cLine) (I : Inv X pins σ H s) (e : H a = some (DcO X.w a xs)) (nk : Nks X.K H M xs) (hb : Rp X.K H M (.ref b) d) (hk : nkey d = some k) (h8 : k.depth ≤ 8)
    (h : ∀ s', Inv X pins σ H s' → Q (.bool (valN xs k).isSome) s') : wpAny (model X.prog X.w) A (compareOp .In (.ref b) (.ref a)) Q E s := by
  obtain ⟨z, hd, ys, rel, dd⟩ := dc_rd I e nk
  refine wpAny_in_heap (n_room hu) (key_is I hb hk h8) hd dd ?_
  have q := (rel.val k).isSome_eq
  rw [Option.isSome_map] at q
  rw [← q]
  exact h _ (I.tok _)
theorem n_notIn {Q : Value → Shared → Prop} (hu : A.units + 9 < cLine) (I : Inv X pins σ H s) (e : H a = some (DcO X.w a xs)) (nk : Nks X.K H M xs) (hb : Rp X.K H M (.ref b) d) (hk : nkey d = some k) (h8 : k.depth ≤ 8)
    (h : ∀ s', Inv X pins σ H s' → Q (.bool (!(valN xs k).isSome)) s') : wpAny (model X.prog X.w) A (compareOp .NotIn (.ref b) (.ref a)) Q E s := by
  obtain ⟨z, hd, ys, rel, dd⟩ := dc_rd I e nk
  refine wpAny_notIn_heap (n_room hu) (key_is I hb hk h8) hd dd ?_
  have q := (rel.val k).isSome_eq
  rw [Option.isSome_map] at q
  rw [← q]
  exact h _ (I.tok _)
theorem dc_ok {P : Program} {w : World} {H' : Hp} {h' : Heap} {ys : List (NestedKey × Addr × Value)} (z : xs.length ≤ sizeLine) (hd : (a == sysModules) = false) (rel : KN3 xs ys)
    (dd : ∃ o es ep, h'.get? a = some o ∧ o.ExactDict ∧ o.data = .dict es ep ∧ es.toList = ys.map (entryOfKey (nestedKind P w)) ∧ (ys.map (·.1)).Nodup) : ObjOk P w H' h' a (DcO w a xs) := by
  refine ⟨⟨z, hd, ys, rel, dd⟩, ?_, ?_⟩
  · obtain ⟨o, _, _, h1, _⟩ := dd; exact ⟨o, h1⟩
  · rintro h1 h2 ⟨z, hd, ys, rel, o, es, ep, q1, q2⟩ k
    exact ⟨z, hd, ys, rel, o, es, ep, k o q1, q2⟩
theorem n_setItem {v : V} {r : Value} {Q : Unit → Shared → Prop} (hu : A.units + 9 < cLine) (I : Inv X pins σ H s) (e : H a = some (DcO X.w a xs)) (nk : Nks X.K H M xs) (hb : Rp X.K H M (.ref b) d) (hk : nkey d = some k) (h8 : k.depth ≤ 8) (hl : xs.length < sizeLine) (rv : RelV v r)
    (h : ∀ s', Inv X pins σ (upd H a (DcO X.w a (putN xs k b v))) s' → Q () s') : wpAny (model X.prog X.w) A (setItem (.ref a) (.ref b) r) Q E s := by
  obtain ⟨z, hd, ys, rel, dd⟩ := dc_rd I e nk
  have hz : ys.length ≤ sizeLine := by rw [← rel.len]; exact z
  have hl2 : (putN xs k b v).length ≤ sizeLine := by have := putN_len xs k b v; omega
  refine wpAny_setItem_heap (hsz := hz) (n_room hu) (key_is I hb hk h8) dd fun h' dd' hs => h _ ?_
  obtain ⟨q, es, ep, hq, h2, h3, h4, _, h5⟩ := dd'
  exact d_write I (by rw [e]; exact True.intro) hs ⟨q, hq⟩ (dc_ok hl2 hd (rel.put k rv) ⟨q, es, ep, hq, h2, h3, h4, h5⟩)
end
end Rf
namespace Rf
open PySem PySem.Spec PyProof.Rows L2
/-! ### dicts whose keys are nested tuples: expressions and statements -/
/-- y is a key of the dict at a -/
def NGet (P : Program) (w : World) (K : Frag) (H : Hp) (a : Addr) (y : V) (r : Option V) : Prop := ∃ (M : Pr) (xs : List En3) (b : Addr) (d : PyData) (k : NestedKey), y = .ref b ∧ H a = some (DcO w a xs) ∧ Nks K H M xs ∧ Rp K H M (.ref b) d ∧ nkey d = some k ∧ k.depth ≤ 8 ∧ r = valN xs k
def NPut (P : Program) (w : World) (K : Frag) (H : Hp) (a : Addr) (y v : V) (H' : Hp) : Prop := ∃ (M : Pr) (xs : List En3) (b : Addr) (d : PyData) (k : NestedKey), y = .ref b ∧ H a = some (DcO w a xs) ∧ Nks K H M xs ∧ Rp K H M (.ref b) d ∧ nkey d = some k ∧ k.depth ≤ 8 ∧
  xs.length < sizeLine ∧ H' = upd H a (DcO w a (putN xs k b v))
def tNGet (X : Cx) (td ty : TE) : TE := fun σ H Q => td σ H fun x H1 => ty σ H1 fun y H2 => ∃ a v, x = .ref a ∧ NGet X.prog X.w X.K H2 a y (some v) ∧ Q v H2
def tNIn (X : Cx) (ty td : TE) : TE := fun σ H Q => ty σ H fun y H1 => td σ H1 fun x H2 => ∃ a o, x = .ref a ∧ NGet X.prog X.w X.K H2 a y o ∧ Q (.bl o.isSome) H2
def tNNotIn (X : Cx) (ty td : TE) : TE := fun σ H Q => ty σ H fun y H1 => td σ H1 fun x H2 => ∃ a o, x = .ref a ∧ NGet X.prog X.w X.K H2 a y o ∧ Q (.bl (!o.isSome)) H2
def sNPut (X : Cx) (td ty tv : TE) : TS := fun D σ H => tv σ H fun v H1 => td σ H1 fun x H2 => ty σ H2 fun y H3 => ∃ a H4, x = .ref a ∧ NPut X.prog X.w X.K H3 a y v H4 ∧ D.nx σ H4
def tNNew (w : World) (P : Program) : TE := fun _ H Q => ∀ p, H p = none → Q (.ref p) (upd H p (DcO w p []))
section
variable {X : Cx} {pins : List (Addr × Obj)} {σ : L2.St} {H : Hp} {s : Shared} {a : Addr} {y v : V} {u r : Value} {A : Around} {E : Value → Shared → Prop}
theorem ng_typeIs {o : Option V} (I : Inv X pins σ H s) (g : NGet X.prog X.w X.K H a y o) : s.TypeIs (.ref a) "dict" := by
  obtain ⟨M, xs, b, d, k, _, e, nk, _⟩ := g
  obtain ⟨_, _, ys, _, dd⟩ := dc_rd I e nk
  exact dd.typeIs
theorem pe_nget {o i : Expr} {pos : Pos} {td ty : TE} (hu : X.A.units + 9 < cLine) (ho : PE X o td) (hi : PE X i ty) (hs : NoSl i) : PE X (.Subscript o i pos) (tNGet X td ty) := by
  refine ⟨fun pins s σ H Q I h => ?_⟩
  refine subD_of PySem.F.slot_dict_getitem.lookup hs (thn (ho.run pins s σ H _ I h) fun u s1 ⟨x, H1, I1, rx, q1⟩ => thn (hi.run pins s1 σ H1 _ I1 q1) fun iv s2 ⟨y, H2, I2, ry, a, v, ex, g, q2⟩ => ?_)
  subst ex
  obtain rfl : u = Value.ref a := rx
  have ht := ng_typeIs I2 g
  obtain ⟨M, xs, b, d, k, rfl, e, nk, hb, hk, h8, l⟩ := g
  cases (show iv = Value.ref b from ry)
  exact ⟨ht, n_getItem hu I2 e nk hb hk h8 l.symm fun w' s3 I3 rw' => ⟨v, H2, I3, rw', q2⟩⟩
theorem pc_nin {o i : Expr} {td ty : TE} (hu : X.A.units + 9 < cLine) (hi : PE X i ty) (ho : PE X o td) : PC X .In i o (tNIn X ty td) := by
  refine ⟨fun pins s σ H Q I h => ?_⟩
  refine thn (hi.run pins s σ H _ I h) fun iv s1 ⟨y, H1, I1, ry, q1⟩ => thn (ho.run pins s1 σ H1 _ I1 q1) fun u s2 ⟨x, H2, I2, rx, a, ov, ex, g, q2⟩ => ?_
  subst ex
  obtain rfl : u = Value.ref a := rx
  obtain ⟨M, xs, b, d, k, rfl, e, nk, hb, hk, h8, l⟩ := g
  cases (show iv = Value.ref b from ry)
  exact n_in hu I2 e nk hb hk h8 fun s3 I3 => ⟨.bl (valN xs k).isSome, H2, I3, rfl, by rw [← l]; exact q2⟩
theorem pc_nnotin {o i : Expr} {td ty : TE} (hu : X.A.units + 9 < cLine) (hi : PE X i ty) (ho : PE X o td) : PC X .NotIn i o (tNNotIn X ty td) := by
  refine ⟨fun pins s σ H Q I h => ?_⟩
  refine thn (hi.run pins s σ H _ I h) fun iv s1 ⟨y, H1, I1, ry, q1⟩ => thn (ho.run pins s1 σ H1 _ I1 q1) fun u s2 ⟨x, H2, I2, rx, a, ov, ex, g, q2⟩ => ?_
  subst ex
  obtain rfl : u = Value.ref a := rx
  obtain ⟨M, xs, b, d, k, rfl, e, nk, hb, hk, h8, l⟩ := g
  cases (show iv = Value.ref b from ry)
  exact n_notIn hu I2 e nk hb hk h8 fun s3 I3 => ⟨.bl (!(valN xs k).isSome), H2, I3, rfl, by rw [← l]; exact q2⟩
theorem ps_nput {o i value : Expr} {pos pos' : Pos} {td ty tv : TE} (hu : X.A.units + 9 < cLine) (ho : PE X o td) (hi : PE X i ty) (hv : PE X value tv) (hs : swapsWith value (some (.Subscript o i pos')) pos.line X.env = pure false) :
    PS X (.Assign [.Subscript o i pos'] value pos) (sNPut X td ty tv) := by
  refine ⟨fun pins s σ H D I h => ?_⟩
  refine wpAny_Assign_Subscript (thn (hv.run pins s σ H _ I h) fun r s1 ⟨v, H1, I1, rv, q1⟩ => thn (ho.run pins s1 σ H1 _ I1 q1) fun u s2 ⟨x, H2, I2, rx, q2⟩ => thn (hi.run pins s2 σ H2 _ I2 q2) fun iv s3 ⟨y, H3, I3, ry, a, H4, ex, g, q3⟩ => ?_) hs
  subst ex
  obtain rfl : u = Value.ref a := rx
  obtain ⟨M, xs, b, d, k, rfl, e, nk, hb, hk, h8, hl, rfl⟩ := g
  cases (show iv = Value.ref b from ry)
  exact n_setItem hu I3 e nk hb hk h8 hl rv fun s4 I4 => ⟨σ, _, I4, q3⟩
theorem dc_empty {P : Program} {w : World} {H : Hp} (h : Heap) (hb : sysModules < h.objs.size) : ObjOk P w H (h.push { cls := .type "dict", data := .dict #[] }) h.objs.size (DcO w h.objs.size []) :=
  dc_ok (Nat.zero_le _) (beq_eq_false_iff_ne.mpr (Ne.symm (Nat.ne_of_lt hb))) (.nil) ⟨_, #[], 0, Heap.get?_push_size _ rfl, ⟨rfl, rfl, rfl⟩, rfl, rfl, List.nodup_nil⟩
theorem pe_nnew {pos : Pos} : PE X (.Dict [] [] pos) (tNNew X.w X.prog) := ⟨fun pins s σ H Q I h =>
  wpAny_Dict_empty ⟨.ref s.heap.objs.size, _, I.laid (a := s.heap.objs.size) (o := DcO X.w s.heap.objs.size []) (t' := s.toks) (fun _ _ q => Heap.get?_push_of_some _ q) (Nat.le_refl _) (dc_empty s.heap I.big), rfl, h _ (I.hok.fresh (Nat.le_refl _))⟩⟩
/-- {k: v} with a nested key -/
def tNDisp (X : Cx) (tk tv : TE) : TE := fun σ H Q => ∀ p, H p = none → tk σ (upd H p (DcO X.w p [])) fun y H1 => tv σ H1 fun v H2 => H2 p = some (DcO X.w p []) ∧ ∃ (M : Pr) (b : Addr) (d : PyData) (k : NestedKey), y = .ref b ∧ Rp X.K H2 M (.ref b) d ∧ nkey d = some k ∧ k.depth ≤ 8 ∧
  Q (.ref p) (upd H2 p (DcO X.w p [(k, b, v)]))
theorem pe_ndisp {ke ve : Expr} {pos : Pos} {tk tv : TE} (hu : X.A.units + 9 < cLine) (hk : PE X ke tk) (hv : PE X ve tv) : PE X (.Dict [some ke] [ve] pos) (tNDisp X tk tv) := by
  refine ⟨fun pins s σ H Q I q => ?_⟩
  have hn := I.hok.fresh (Nat.le_refl s.heap.objs.size)
  have I1 := I.laid (a := s.heap.objs.size) (o := DcO X.w s.heap.objs.size []) (h' := s.heap.push { cls := .type "dict", data := .dict #[] }) (t' := s.toks) (fun _ _ q => Heap.get?_push_of_some _ q) (Nat.le_refl _) (dc_empty s.heap I.big)
  have h0 : pairTrees [some ke] [ve] X.env pos ≠ [] := by
    intro e
    have := pairTrees_length [some ke] [ve] X.env pos rfl rfl
    rw [e] at this; cases this
  rw [arm_eval_Dict, zip_pairTrees [some ke] [ve] X.env pos rfl rfl, dictDisplay_pairs _ h0 (by rw [pairTrees_length [some ke] [ve] X.env pos rfl rfl]; simp)]
  refine wpAny_bind (wpAny_standAt (wpAny_bind (wpAny_subDictH (knd := nestedKind X.prog X.w) (Q := fun d s' => wpAny (model X.prog X.w) X.A (pure (Value.ref d)) (EP X pins σ Q) X.xe s') (by show X.A.units + 8 < cLine; omega) (by rw [pairTrees_length [some ke] [ve] X.env pos rfl rfl]; simp) ?_)))
  refine pairTrees_cons_walk (thn (hk.run pins _ σ _ _ I1 (q _ hn)) fun u s1 ⟨y, H1, I2, ry, q1⟩ => thn (hv.run pins s1 σ H1 _ I2 q1) fun w2 s2 ⟨v, H2, I3, rv, e, M, b, d, k, ey, hb, hnk, h8, q2⟩ => pairTrees_nil_walk ?_)
  subst ey
  cases (show u = Value.ref b from ry)
  obtain ⟨z, hd, ys, r0, dd⟩ := dc_rd (M := M) I3 e (fun x hx => nomatch hx)
  cases r0
  refine ⟨[(k, b, w2)], ⟨rfl, rfl, key_is I3 hb hnk h8, trivial⟩, dd, fun h' tk dd' hs => wpAny_pure ⟨.ref s.heap.objs.size, _, ?_, rfl, q2⟩⟩
  obtain ⟨o, es, ep, g1, g2, g3, g4, _, g5⟩ := dd'
  exact d_write I3 (by rw [e]; exact True.intro) hs ⟨o, g1⟩ (dc_ok (ys := [(k, b, w2)]) (by rw [sizeLine_eq]; simp) hd (.cons ⟨rfl, rfl, rv⟩ .nil) ⟨o, es, ep, g1, g2, g3, g4, g5⟩)
end
end Rf
namespace Rf
open PySem PySem.Spec PyProof.Rows L2
/-! ### sorted(xs), xs data that can be compared -/
section
variable {X : Cx} {pins : List (Addr × Obj)} {σ : L2.St} {H : Hp} {s : Shared} {M : Pr}
mutual
theorem rp_reads (I : Inv X pins σ H s) : ∀ (d : PyData) (v : V) (u : Value), Rp X.K H M v d → RelV v u → ∃ as, Reads s.heap u d as
  | .none, _, u, h, r => by
    cases h
    cases (show u = Value.none from r); exact ⟨_, .none⟩
  | .bool b, _, u, h, r => by
    cases h
    cases (show u = Value.bool b from r); exact ⟨_, .bool b⟩
  | .int i, _, u, h, r => by
    cases h
    obtain ⟨t, rfl⟩ := (show ∃ t, u = Value.int i t from r)
    exact ⟨_, .int i t⟩
  | .str x, _, u, h, r => by
    cases h
    obtain ⟨t, rfl⟩ := (show ∃ t, u = Value.str x t from r)
    exact ⟨_, .str x t⟩
  | .tuple ds, _, u, h, r => by
    cases h with
    | tup l q =>
      rename_i a xs
      cases (show u = Value.ref a from r)
      obtain ⟨its, rv, ⟨o, h1, h2, n, h3⟩, _⟩ := I.tuple l
      obtain ⟨as, q2⟩ := rps_reads I ds xs its q rv
      exact ⟨as, .tuple h1 h2 h3 (by simpa using q2)⟩
  | .list ds, _, u, h, r => by
    cases h with
    | lst l q =>
      rename_i a xs
      cases (show u = Value.ref a from r)
      obtain ⟨its, rv, ⟨o, n, h1, h2, _, h3⟩, _⟩ := I.list l.sq
      obtain ⟨as, q2⟩ := rps_reads I ds xs its q rv
      exact ⟨a :: as, .list h1 h2 h3 (by simpa using q2)⟩
  | .dict _, _, _, h, _ => by cases h
theorem rps_reads (I : Inv X pins σ H s) : ∀ (ds : List PyData) (vs : List V) (us : List Value), RpA X.K H M vs ds → Vals vs us → ∃ as, ReadsAll s.heap us ds as
  | [], _, us, h, r => by
    cases h
    cases r
    exact ⟨_, .nil⟩
  | d :: ds, _, us, h, r => by
    cases h with
    | cons a b =>
      cases r with
      | cons r1 r2 =>
        obtain ⟨as, q1⟩ := rp_reads I d _ _ a r1
        obtain ⟨bs, q2⟩ := rps_reads I ds _ _ b r2
        exact ⟨_, .cons q1 q2⟩
end
/-- a value and its data -/
def VD (K : Frag) (H : Hp) (M : Pr) (u : Value) (d : PyData) : Prop := ∃ v, Rp K H M v d ∧ RelV v u
theorem vd_in : ∀ {vs : List V} {us : List Value} {ds : List PyData}, RpA X.K H M vs ds → Vals vs us → PySem.W.EachIs (VD X.K H M) us ds
  | _, us, _, .nil, r => by cases r; exact .nil
  | _, us, _, .cons a b, r => by
    cases r with
    | cons r1 r2 => exact .cons ⟨_, a, r1⟩ (vd_in b r2)
theorem vd_out : ∀ {us : List Value} {ds : List PyData}, PySem.W.EachIs (VD X.K H M) us ds → ∃ vs, RpA X.K H M vs ds ∧ Vals vs us
  | _, _, .nil => ⟨[], .nil, .nil⟩
  | _, _, .cons ⟨v, a, r⟩ t => by
    obtain ⟨vs, b, r2⟩ := vd_out t
    exact ⟨v :: vs, .cons a b, .cons r r2⟩
def sortD (ds : List PyData) : List PyData := ds.mergeSort (PySem.W.dataLe false id)
def rSortedD (K : Frag) : List V → Hp → VK → Prop := fun vs H Q => ∃ (M : Pr) (a : Addr) (xs : List V) (ds : List PyData), vs = [V.ref a] ∧ SqL K H a xs ∧ RpA K H M xs ds ∧ PySem.W.AllAlike ds ∧ PySem.W.Sortable ds ∧ (∀ d ∈ ds, d.depth ≤ 50) ∧
  ∀ (ys : List V) (p : Addr), RpA K H M ys (sortD ds) → ys.length = xs.length → H p = none → Q (.ref p) (upd H p (.lst ys))
theorem cr_sortedD (hu : X.A.units + 53 < cLine) : CallR X (.builtin "sorted") (rSortedD X.K) := by
  intro pins s σ H vs us Q I r h
  obtain ⟨M, a, xs, ds, rfl, hs, rp, hal, hso, hdp, q⟩ := h
  obtain ⟨its, rv, hl, hz⟩ := I.list hs
  rw [Vals.ref1 r]
  have e1 := vd_in (X := X) rp rv
  have l1 := rp.len
  have e2 : PySem.W.EachIs (fun v b => ∃ as, Reads s.heap v (id b) as) its ds := e1.mono fun u d ⟨v, h1, h2⟩ => rp_reads I d v u h1 h2
  refine PySem.W.sorted_data (enc := id) (R := VD X.K H M) hl.isList e1 e2 (by simpa using hal) (by simpa using hso) (by omega) (fun d hd => by have := hdp d hd; show X.A.units + 2 + d.depth < cLine; omega) fun out hlen ho => ?_
  obtain ⟨ys, ry, rvy⟩ := vd_out (X := X) ho
  obtain ⟨ep, he'⟩ := PyProof.Rows.sortedAll_at s.heap its out.toArray
  have hyl : ys.length = xs.length := by rw [rvy.length, hlen, l1]
  exact ⟨.ref _, upd H (s.heap.objs.size + 1) (.lst ys), I.laid (t' := s.toks) (fun _ _ => PyProof.Rows.sortedAll_old) (Nat.le_succ _) ⟨by omega, out, ep, rvy, he'⟩, rfl, q ys _ ry hyl (I.hok.fresh (Nat.le_succ _))⟩
end
end Rf
namespace Rf
open PySem PySem.Spec PyProof.Rows L2
/-! ### a dict as data -/
section
variable {K : Frag} {H : Hp} {M : Pr} {kvs : List (PyData × PyData)} {xs : List En3}
theorem DKV.nks (r : DKV K H M kvs xs) : Nks K H M xs := by
  intro x hx
  have r' : Paired (fun (kv : PyData × PyData) (x : En3) => nkey kv.1 = some x.1 ∧ x.1.depth ≤ 8 ∧ Rp K H M (.ref x.2.1) kv.1 ∧ Rp K H M x.2.2 kv.2) kvs xs := r
  clear r
  induction r' with
  | nil => cases hx
  | @cons p q ps qs h t ih =>
    rcases List.mem_cons.mp hx with rfl | hx
    · exact ⟨p.1, h.2.2.1, h.1, h.2.1⟩
    · exact ih hx
theorem DKV.find (r : DKV K H M kvs xs) (k : NestedKey) : (∃ d v, dFind kvs k = some d ∧ valN xs k = some v ∧ Rp K H M v d) ∨ (dFind kvs k = none ∧ valN xs k = none) := by
  have r' : Paired (fun (kv : PyData × PyData) (x : En3) => nkey kv.1 = some x.1 ∧ x.1.depth ≤ 8 ∧ Rp K H M (.ref x.2.1) kv.1 ∧ Rp K H M x.2.2 kv.2) kvs xs := r
  clear r
  induction r' with
  | nil => exact .inr ⟨rfl, rfl⟩
  | @cons p q ps qs h t ih =>
    by_cases e : q.1 = k
    · have e2 : nkey p.1 = some k := by rw [h.1, e]
      exact .inl ⟨p.2, q.2.2, by simp [dFind, e2], by simp [valN, e], h.2.2.2⟩
    · have e2 : ¬ nkey p.1 = some k := by rw [h.1]; simpa using e
      have f1 : dFind (p :: ps) k = dFind ps k := by simp [dFind, List.find?_cons, e2]
      have f2 : valN (q :: qs) k = valN qs k := by simp [valN, List.find?_cons, e]
      rw [f1, f2]
      exact ih
theorem DKV.some_iff (r : DKV K H M kvs xs) (k : NestedKey) : (dFind kvs k).isSome = (valN xs k).isSome := by
  rcases r.find k with ⟨d, v, e1, e2, _⟩ | ⟨e1, e2⟩ <;> rw [e1, e2] <;> rfl
theorem DKV.put (r : DKV K H M kvs xs) {k : NestedKey} {kd vd : PyData} {b : Addr} {v : V} (hk : nkey kd = some k) (h8 : k.depth ≤ 8) (hb : Rp K H M (.ref b) kd) (hv : Rp K H M v vd) : DKV K H M (dPut kvs k kd vd) (putN xs k b v) := by
  unfold dPut putN
  rw [r.some_iff k]
  split
  · have r' : Paired (fun (kv : PyData × PyData) (x : En3) => nkey kv.1 = some x.1 ∧ x.1.depth ≤ 8 ∧ Rp K H M (.ref x.2.1) kv.1 ∧ Rp K H M x.2.2 kv.2) kvs xs := r
    clear r
    unfold DKV
    rename_i hs
    clear hs
    induction r' with
    | nil => exact .nil
    | @cons p q ps qs h t ih =>
      rw [List.map_cons, List.map_cons]
      refine .cons ?_ ih
      by_cases e : q.1 = k
      · have e2 : nkey p.1 = some k := by rw [h.1, e]
        rw [if_pos e, if_pos e2]
        exact ⟨h.1, h.2.1, h.2.2.1, hv⟩
      · have e2 : ¬ nkey p.1 = some k := by rw [h.1]; simpa using e
        rw [if_neg e, if_neg e2]
        exact h
  · exact Paired.snoc r ⟨hk, h8, hb, hv⟩
end
end Rf
namespace Rf
open PySem PySem.Spec PyProof.Rows L2
/-! ### a dict of the store: k in d, d[k], as the evaluator will tell them -/
section
variable {X : Cx} {O : Orc} {k : Ck} {sc so : Scope} {lo : Nat} {W : WX} {a b : Expr} {ea eb : E} {pos : Pos} {σ : L2.St} {H : Hp} {Q : VK}
theorem ng_of {ρ Y : List Addr} {S : Sto} {v u : V} {x y : Wd} {x' : PyData} {kvs : List (PyData × PyData)} {key : NestedKey} (cf : Cf X.w X.K H ρ S Y) (rx : Rw X.K H ρ (mu ρ S Y) v x) (ry : Rw X.K H ρ (mu ρ S Y) u y)
    (e1 : peek S x = some x') (e2 : keyT x' = some key) (e3 : dictW S y = some kvs) : ∃ (c : Addr) (xs : List En3), u = .ref c ∧ DKV X.K H (mu ρ S Y) kvs xs ∧ NGet X.prog X.w X.K H c v (valN xs key) := by
  cases y with
  | d z => cases e3
  | r n =>
    obtain ⟨c, h1, rfl⟩ := ry
    cases e : S[n]? with
    | none => simp [dictW, e] at e3
    | some o =>
      simp [dictW, e] at e3
      obtain ⟨xs, h2, h3⟩ := (cf.ent n c o h1 e).dct kvs e3
      refine ⟨c, xs, rfl, h3, ?_⟩
      cases x' with
      | tuple ds =>
        simp only [keyT, Option.bind_eq_some_iff] at e2
        obtain ⟨k', k1, k2⟩ := e2
        split at k2
        · rename_i h8
          cases k2
          have hv := Vw.of cf rx e1
          cases hv with
          | rp hv =>
            cases hv with
            | tup l q => exact ⟨mu ρ S Y, xs, _, .tuple ds, key, rfl, h2, h3.nks, .tup l q, k1, h8, rfl⟩
        · cases k2
      | _ => cases e2
theorem i_din (po : tE (fm X O lo W) (.din false ea eb) σ H Q) : tNIn X (tE (fm X O lo W) ea) (tE (fm X O lo W) eb) σ H Q := by
  obtain ⟨env, ρ, S, Y, fs, po⟩ := po
  simp only [ev] at po
  refine ⟨env, ρ, S, Y, fs, Po.bind po fun x S1 v H1 _ st1 cf1 rw1 h1 => ⟨env, ρ, S1, Y, fs.step st1 cf1, Po.bind h1 fun y S2 u H2 _ st2 cf2 rw2 h2 => ?_⟩⟩
  obtain ⟨x', e1, h2⟩ := Po.orNo h2
  obtain ⟨key, e2, h2⟩ := Po.orNo h2
  obtain ⟨kvs, e3, h2⟩ := Po.orNo h2
  obtain ⟨c, xs, hu, r, g⟩ := ng_of cf2 (st2.rw' rw1) rw2 e1 e2 e3
  refine ⟨c, _, hu, g, ?_⟩
  rw [← r.some_iff key]
  exact h2 _ H2 Ste.refl cf2 (by show Rp X.K H2 (mu ρ S2 Y) (.bl _) (.bool _); simp; exact .bl _)
theorem i_dnin (po : tE (fm X O lo W) (.din true ea eb) σ H Q) : tNNotIn X (tE (fm X O lo W) ea) (tE (fm X O lo W) eb) σ H Q := by
  obtain ⟨env, ρ, S, Y, fs, po⟩ := po
  simp only [ev] at po
  refine ⟨env, ρ, S, Y, fs, Po.bind po fun x S1 v H1 _ st1 cf1 rw1 h1 => ⟨env, ρ, S1, Y, fs.step st1 cf1, Po.bind h1 fun y S2 u H2 _ st2 cf2 rw2 h2 => ?_⟩⟩
  obtain ⟨x', e1, h2⟩ := Po.orNo h2
  obtain ⟨key, e2, h2⟩ := Po.orNo h2
  obtain ⟨kvs, e3, h2⟩ := Po.orNo h2
  obtain ⟨c, xs, hu, r, g⟩ := ng_of cf2 (st2.rw' rw1) rw2 e1 e2 e3
  refine ⟨c, _, hu, g, ?_⟩
  rw [← r.some_iff key]
  exact h2 _ H2 Ste.refl cf2 (by show Rp X.K H2 (mu ρ S2 Y) (.bl _) (.bool _); simp; exact .bl _)
theorem i_dget (po : tE (fm X O lo W) (.dget eb ea) σ H Q) : tNGet X (tE (fm X O lo W) eb) (tE (fm X O lo W) ea) σ H Q := by
  obtain ⟨env, ρ, S, Y, fs, po⟩ := po
  simp only [ev] at po
  refine ⟨env, ρ, S, Y, fs, Po.bind po fun y S1 u H1 _ st1 cf1 rw1 h1 => ⟨env, ρ, S1, Y, fs.step st1 cf1, Po.bind h1 fun x S2 v H2 _ st2 cf2 rw2 h2 => ?_⟩⟩
  obtain ⟨x', e1, h2⟩ := Po.orNo h2
  obtain ⟨key, e2, h2⟩ := Po.orNo h2
  obtain ⟨kvs, e3, h2⟩ := Po.orNo h2
  obtain ⟨d, e4, h2⟩ := Po.orNo h2
  obtain ⟨c, xs, hu, r, g⟩ := ng_of cf2 rw2 (st2.rw' rw1) e1 e2 e3
  rcases r.find key with ⟨d', v', q1, q2, q3⟩ | ⟨q1, _⟩
  · rw [e4] at q1; cases q1
    rw [q2] at g
    exact ⟨c, v', hu, g, h2 _ H2 Ste.refl cf2 q3⟩
  · rw [e4] at q1; cases q1
/-- the rules -/
theorem s_din (ok : XOk X O k sc so) (hp : plainX b = true) (ha : PE X a (tE (fm X O lo W) ea)) (hb : PE X b (tE (fm X O lo W) eb)) : PE X (.Compare a [.In] [b] pos) (tE (fm X O lo W) (.din false ea eb)) :=
  PE_imp (pe_cmp (pc_nin (by have := ok.hu; omega) ha hb) (behind_of hp _)) fun σ H Q h => i_din h
theorem s_dnin (ok : XOk X O k sc so) (hp : plainX b = true) (ha : PE X a (tE (fm X O lo W) ea)) (hb : PE X b (tE (fm X O lo W) eb)) : PE X (.Compare a [.NotIn] [b] pos) (tE (fm X O lo W) (.din true ea eb)) :=
  PE_imp (pe_cmp (pc_nnotin (by have := ok.hu; omega) ha hb) (behind_of hp _)) fun σ H Q h => i_dnin h
theorem s_dget (ok : XOk X O k sc so) (hs : NoSl a) (ha : PE X a (tE (fm X O lo W) ea)) (hb : PE X b (tE (fm X O lo W) eb)) : PE X (.Subscript b a pos) (tE (fm X O lo W) (.dget eb ea)) :=
  PE_imp (pe_nget (by have := ok.hu; omega) hb ha hs) fun σ H Q h => i_dget h
theorem t_din (ok : XOk X O k sc so) (hp : plainX b = true) (ha : PE X a (tE (fm X O lo W) ea)) (hb : PE X b (tE (fm X O lo W) eb)) : PT X (.Compare a [.In] [b] pos) (tB' (fm X O lo W) (.din false ea eb)) :=
  PT_imp (pt_cmp (pc_nin (by have := ok.hu; omega) ha hb) (behind_of hp _)) fun σ H Q h => i_din (tB_E h)
theorem t_dnin (ok : XOk X O k sc so) (hp : plainX b = true) (ha : PE X a (tE (fm X O lo W) ea)) (hb : PE X b (tE (fm X O lo W) eb)) : PT X (.Compare a [.NotIn] [b] pos) (tB' (fm X O lo W) (.din true ea eb)) :=
  PT_imp (pt_cmp (pc_nnotin (by have := ok.hu; omega) ha hb) (behind_of hp _)) fun σ H Q h => i_dnin (tB_E h)
end
end Rf
namespace Rf
open PySem PySem.Spec PyProof.Rows L2
/-! ### len(d), whatever the keys are -/
section
variable {prog : Program} {w : World} {A : Around} {E : Value → Shared → Prop} {s : Shared}
theorem len_body_raw {d : Addr} {es : Array DictEntry} {ep : Nat} {Q : Value → Shared → Prop} (hd : (d == sysModules) = false) (hm : s.heap.DictRaw d es ep) (hfit : (es.size : Int) < 2 ^ 63)
    (h : Q (.int es.size (s.toks + 1)) { s with toks := s.toks + 1 + 1 }) : wpAny (model prog w) A (Builtin.«len» ⟨[.ref d], []⟩) (fun fin s' => ∃ r, fin = .done (.ret r) ∧ Q r s') E s := by
  unfold Builtin.«len»
  refine wpAny_bind (m := oneArg "len" _) (wpAny_pure ?_)
  refine wpAny_bind (m := callSpecial? (.ref d) (Str.ofString "__len__")) (wpAny_callSpecial?_slot (name := Str.ofString "__len__") hm.typeIs F.slot_dict_len
    (call_meetsIn F.slot_dict_len hm.typeIs F.entry_dict_len (F.args_dict_len_1 _) (meets_dict_len_raw d hd) ⟨es, ep, hm, ?_⟩))
  show wpAny _ _ _ _ _ { s with toks := s.toks + 1 }
  refine wpAny_bind (wpAny_holding (wpAny_pure ?_))
  refine wpAny_bind (wpAny_letGo ?_)
  show wpAny _ _ (if ((es.size : Nat) : Int) < 0 then _ else _) _ _ _
  rw [if_neg (by omega)]
  show wpAny _ _ (if ((es.size : Nat) : Int) ≥ 2 ^ 63 then _ else _) _ _ _
  rw [if_neg (by omega)]
  exact wpAny_bind (wpAny_mkInt (wpAny_pure ⟨_, rfl, h⟩))
theorem call_len_raw' {d : Addr} {es : Array DictEntry} {ep : Nat} {Q : Value → Shared → Prop} (hd : (d == sysModules) = false) (hm : s.heap.DictRaw d es ep) (hfit : (es.size : Int) < 2 ^ 63)
    (h : Q (.int es.size (s.toks + 1)) { s with toks := s.toks + 1 + 1 }) : wpAny (model prog w) A (call (.builtin "len") [.ref d]) Q E s :=
  Calls.call_function_entry kind_len plain_len entry_len (args_len1 _) (len_body_raw hd hm hfit h)
end
def rLenD (w : World) : List V → Hp → VK → Prop := fun vs H Q => ∃ (a : Addr) (xs : List En3), vs = [V.ref a] ∧ H a = some (DcO w a xs) ∧ Q (.int xs.length) H
theorem cr_lenD {X : Cx} : CallR X (.builtin "len") (rLenD X.w) := by
  intro pins s σ H vs us Q I r h
  obtain ⟨a, xs, rfl, e, q⟩ := h
  rw [Vals.ref1 r]
  obtain ⟨⟨z, hd, ys, rel, o, es, ep, h1, h2, h3, h4, h5⟩, _⟩ := (show ObjOk X.prog X.w H s.heap a (DcO X.w a xs) from I.hok a _ e)
  have hz : es.size = xs.length := by
    have : es.toList.length = ys.length := by rw [h4, List.length_map]
    rw [rel.len, ← this]; simp
  refine call_len_raw' (es := es) (ep := ep) hd ⟨o, h1, h2, h3⟩ (by rw [hz]; rw [sizeLine_eq] at z; omega) ?_
  exact ⟨.int xs.length, H, I.tok _, ⟨_, by rw [hz]⟩, q⟩
end Rf
namespace Rf
open PySem PySem.Spec PyProof.Rows L2

/-- what a walk leans on stays: the lists at B, tuples, known things -/
def Kp (B : List Addr) (H H' : Hp) : Prop := ∀ b o, H b = some o → (b ∈ B ∨ (∃ xs, o = .tup xs) ∨ ∃ u v, o = .frz u v) → H' b = some o
theorem Same.kp {B : List Addr} {H H' : Hp} (h : Same H H') : Kp B H H' := fun b o e _ => h b o e
/-- an iterator that gives the data ds -/
def Wk (K : Frag) (J : It) (H1 : Hp) (M1 : Pr) (ds : List PyData) (B : List Addr) : Prop :=
  ∃ (G : Hp → Prop) (Yl : Nat → Hp → V → Hp → Prop), Walk J ds.length G Yl ∧ G H1 ∧ (∀ H H', G H → Kp B H H' → G H') ∧
    ∀ (i : Nat) H x H' (M : Pr), i < ds.length → G H → (∀ a, M a → H a ≠ none) → (∀ v d, Rp K H1 M1 v d → Rp K H M v d) → Yl i H x H' → Same H H' ∧ ∃ d, ds[i]? = some d ∧ Rp K H' M x d
def RI (F : Fm) (ρ Y : List Addr) : Hp → Sto → It → List PyData × List Wd → Prop := fun H S J p =>
  ∃ B, Wk F.K J H (mu ρ S Y) p.1 B ∧ p.1.length ≤ sizeLine ∧ ∀ b ∈ B, (∃ n, Wd.r n ∈ p.2 ∧ ρ[n]? = some b) ∨ ¬ mu ρ S Y b
def tI (F : Fm) (it : I) : TI := fun σ H R => ∃ env ρ S Y, Fs F σ H env ρ S Y ∧ Po F ρ Y σ (RI F ρ Y) H S (evI F.O F.lo it env S) R
theorem PI_imp {X : Cx} {tg e : Expr} {t t' : TI} (h : PI X tg e t) (k : ∀ σ H Q, t' σ H Q → t σ H Q) : PI X tg e t' := ⟨fun pins s σ H Q I q => h.run pins s σ H Q I (k σ H Q q)⟩
/-- a list, a tuple, a text -/
def iAny (K : Frag) (tl : TE) : TI := fun σ H R => tl σ H fun x H1 =>
  (∃ a xs, x = .ref a ∧ SqL K H1 a xs ∧ R (Itl K a) H1) ∨ (∃ a xs, x = .ref a ∧ SqT K H1 a xs ∧ R (Itt K a) H1) ∨ ∃ z, x = .str z ∧ R (Its z) H1
section
variable {X : Cx} {tg e : Expr} {te : TE}
theorem pi_any (he : PE X e te) : PI X tg e (iAny X.K te) := by
  refine ⟨fun pins s σ H R I h => thn (he.run pins s σ H _ I h) fun v s1 ⟨x, H1, I1, r1, q1⟩ => ?_⟩
  rcases q1 with ⟨a, xs, e1, sq, q⟩ | ⟨a, xs, e1, sq, q⟩ | ⟨z, e1, q⟩
  · rw [e1] at r1
    cases r1
    obtain ⟨its, _, p, _⟩ := I1.list sq
    exact wpAny_pyIter_list p.isList (pi_one (tk := s1.toks) I1 _ (turn_list a _) ⟨_, Heap.get?_push_size _ rfl, rfl, rfl⟩ q)
  · rw [e1] at r1
    cases r1
    obtain ⟨its, _, p, _⟩ := I1.tuple sq
    exact wpAny_pyIter_tuple (show s1.heap.IsTuple a its.toArray from p) (pi_one (tk := s1.toks) I1 _ (turn_tuple a _) ⟨_, Heap.get?_push_size _ rfl, rfl, rfl⟩ q)
  · rw [e1] at r1
    obtain ⟨t, rfl⟩ := r1
    cases ha : z.cps.all (· < 128)
    · exact wpAny_pyIter_wide ha (pi_one (tk := s1.toks) I1 _ (turn_str _ z t _ (.inr rfl)) ⟨_, Heap.get?_push_size _ rfl, rfl, rfl⟩ q)
    · exact wpAny_pyIter_ascii ha (pi_one (tk := s1.toks) I1 _ (turn_str _ z t _ (.inl rfl)) ⟨_, Heap.get?_push_size _ rfl, rfl, rfl⟩ q)
end
section
variable {K : Frag} {H1 : Hp} {M1 : Pr} {a : Addr} {xs : List V} {ds : List PyData}
theorem kp_list {B : List Addr} {H H' : Hp} (ha : a ∈ B) (h : SqL K H a xs) (k : Kp B H H') : SqL K H' a xs := by
  rcases h with (h | ⟨o, h⟩) | h
  · exact .inl (.inl (k _ _ h (.inl ha)))
  · exact .inl (.inr ⟨o, k _ _ h (.inr (.inr ⟨_, _, rfl⟩))⟩)
  · exact .inr h
theorem kp_tup {B : List Addr} {H H' : Hp} (h : SqT K H a xs) (k : Kp B H H') : SqT K H' a xs := by
  rcases h with (h | ⟨o, h⟩) | h
  · exact .inl (.inl (k _ _ h (.inr (.inl ⟨_, rfl⟩))))
  · exact .inl (.inr ⟨o, k _ _ h (.inr (.inr ⟨_, _, rfl⟩))⟩)
  · exact .inr h
theorem wk_list (h : SqL K H1 a xs) (r : RpA K H1 M1 xs ds) : Wk K (Itl K a) H1 M1 ds [a] := by
  refine ⟨fun H => SqL K H a xs, YAt xs, r.len ▸ walk_list, h, fun H H' q k => kp_list (by simp) q k, fun i H x H' M hi _ _ hr ⟨e, y⟩ => ?_⟩
  subst e
  obtain ⟨d, e1, e2⟩ := r.at y
  exact ⟨Same.refl _, d, e1, hr _ _ e2⟩
theorem wk_tup (h : SqT K H1 a xs) (r : RpA K H1 M1 xs ds) : Wk K (Itt K a) H1 M1 ds [] := by
  refine ⟨fun H => SqT K H a xs, YAt xs, r.len ▸ walk_tup, h, fun H H' q k => kp_tup q k, fun i H x H' M hi _ _ hr ⟨e, y⟩ => ?_⟩
  subst e
  obtain ⟨d, e1, e2⟩ := r.at y
  exact ⟨Same.refl _, d, e1, hr _ _ e2⟩
theorem wk_str {z : Str} : Wk K (Its z) H1 M1 (z.cps.toList.map fun c => .str ⟨#[c]⟩) [] := by
  have hl : (z.cps.toList.map fun c => PyData.str ⟨#[c]⟩).length = z.cps.size := by simp
  refine ⟨fun _ => True, _, hl ▸ walk_str, trivial, fun _ _ _ _ => trivial, fun i H x H' M hi _ _ hr ⟨e, c, e1, e2⟩ => ?_⟩
  subst e e2
  exact ⟨Same.refl _, .str ⟨#[c]⟩, by simp [e1], .str _⟩
theorem rangeL_len : ∀ (n : Nat) (lo : Int), (rangeL lo n).length = n
  | 0, _ => rfl
  | n + 1, lo => by simp [rangeL, rangeL_len n]
theorem rangeL_get : ∀ (n : Nat) (lo : Int) (i : Nat), i < n → (rangeL lo n)[i]? = some (.int (lo + i))
  | n + 1, lo, 0, _ => by simp [rangeL]
  | n + 1, lo, i + 1, h => by
    show (rangeL (lo + 1) n)[i]? = _
    rw [rangeL_get n (lo + 1) i (by omega)]
    congr 2
    omega
theorem wk_range {lo : Int} {n : Nat} : Wk K (Itr lo n) H1 M1 (rangeL lo n) [] := by
  refine ⟨fun _ => True, YFn fun i => .int (lo + i), by rw [rangeL_len]; exact walk_range, trivial, fun _ _ _ _ => trivial, fun i H x H' M hi _ _ hr ⟨e, e2⟩ => ?_⟩
  subst e e2
  rw [rangeL_len] at hi
  exact ⟨Same.refl _, _, rangeL_get n lo i hi, .int _⟩
end
section
variable {X : Cx} {O : Orc} {k : Ck} {sc so : Scope} {lo : Nat} {W : WX} {a b c tg : Expr} {ea eb ec : E} {pos : Pos}
theorem len_listR {K : Frag} {H : Hp} {a : Addr} {xs : List V} {X : Cx} {pins : List (Addr × Obj)} {σ : L2.St} {s : Shared} (I : Inv X pins σ H s) (h : SqL X.K H a xs) : xs.length ≤ sizeLine := (I.list h).choose_spec.2.2
/-- the length of what is walked is within the line: read off the heap -/
def iLen (K : Frag) (t : TI) : TI := fun σ H R => t σ H fun J H1 => (∀ a xs, (SqL K H1 a xs ∨ SqT K H1 a xs) → xs.length ≤ sizeLine) → R J H1
theorem PI_len {e : Expr} {t : TI} (h : PI X tg e t) : PI X tg e (iLen X.K t) := by
  refine ⟨fun pins s σ H R I q => thn (h.run pins s σ H _ I q) fun v s1 h1 => thn h1 fun itv s2 ⟨it, fp, tn, J, H', e1, I', T, st, f, q'⟩ => ⟨it, fp, tn, J, H', e1, I', T, st, f, q' fun a xs z => ?_⟩⟩
  rcases z with z | z
  · exact (I'.list z).choose_spec.2.2
  · exact (I'.tuple z).choose_spec.2.2
theorem s_of (ha : PE X a (tE (fm X O lo W) ea)) : PI X tg a (tI (fm X O lo W) (.of ea)) := by
  refine PI_imp (PI_len (pi_any ha)) ?_
  rintro σ H Q ⟨env, ρ, S, Y, fs, po⟩
  simp only [evI] at po
  refine ⟨env, ρ, S, Y, fs, Po.bind po fun x S1 v H1 _ st1 cf1 rw1 h1 => ?_⟩
  obtain ⟨x', e1, h1⟩ := Po.orNo h1
  obtain ⟨ds, e2, h1⟩ := Po.orNo h1
  have vw := Vw.of cf1 rw1 e1
  have hB : ∀ (a : Addr), v = .ref a → (∃ n, Wd.r n ∈ [x] ∧ ρ[n]? = some a) ∨ (∀ xs', x' = .list xs' → ¬ mu ρ S1 Y a ∨ KL X.K a (xs'.map fun _ => V.non) ∨ True) := fun a _ => .inr fun _ _ => .inr (.inr trivial)
  cases x' <;> simp [itemsD] at e2
  case list xs' =>
    subst e2
    obtain ⟨b, vs, e3, sq, rr⟩ := vw.list
    refine .inl ⟨b, vs, e3, sq, fun hl => ?_⟩
    cases x with
    | r n =>
      obtain ⟨b', e4, e5⟩ := rw1
      rw [e3] at e5; cases e5
      exact h1 (Itl X.K b) H1 Ste.refl cf1 ⟨[b], wk_list sq rr, by rw [← rr.len]; exact hl b vs (.inl sq), fun c hc => by
        have : c = b := by simpa using hc
        subst this
        exact .inl ⟨n, by simp, e4⟩⟩
    | d x0 =>
      cases e1
      cases rw1 with
      | lst l r' =>
        cases e3
        rcases l with ⟨_, l⟩ | l
        · exact h1 (Itl X.K b) H1 Ste.refl cf1 ⟨[b], wk_list sq rr, by rw [← rr.len]; exact hl b vs (.inl sq), fun c hc => by
            have : c = b := by simpa using hc
            subst this
            exact .inr l⟩
        · -- a list of the written part
          refine h1 (Itl X.K b) H1 Ste.refl cf1 ⟨[], ?_, by rw [← rr.len]; exact hl b vs (.inl sq), fun c hc => absurd hc (by simp)⟩
          rename_i ys
          refine ⟨fun _ => True, YAt ys, ?_, trivial, fun _ _ _ _ => trivial, fun i H x H' M hi _ _ hr ⟨e, y⟩ => ?_⟩
          · rw [← r'.len]
            exact walk_list.mono (fun H _ => .inr l) fun i H x H' _ _ y => y
          · subst e
            obtain ⟨d, e1, e2⟩ := r'.at y
            exact ⟨Same.refl _, d, e1, hr _ _ e2⟩
  case tuple xs' =>
    subst e2
    obtain ⟨b, vs, e3, sq, rr⟩ := vw.tuple
    exact .inr (.inl ⟨b, vs, e3, sq, fun hl => h1 (Itt X.K b) H1 Ste.refl cf1 ⟨[], wk_tup sq rr, by rw [← rr.len]; exact hl b vs (.inr sq), fun c hc => absurd hc (by simp)⟩⟩)
  case str z =>
    obtain ⟨hz, e2⟩ := e2
    subst e2
    exact .inr (.inr ⟨z, vw.str, fun _ => h1 (Its z) H1 Ste.refl cf1 ⟨[], wk_str, by rw [← lim_eq, List.length_map, Array.length_toList]; exact hz, fun c hc => absurd hc (by simp)⟩⟩)
theorem s_range1 {eas : Es} {y : Str} {p : Pos} (ok : XOk X O k sc so) (h1 : y = ("range" : Str)) (h2 : glB sc y = true) (h3 : plainX a = true) (ha : PA X [a] (tEs (fm X O lo W) eas)) : PI X tg (.Call (.Name y p) [a] [] pos) (tI (fm X O lo W) (.range1 eas)) := by
  obtain ⟨g1, g2⟩ := ok.gl h2
  subst h1
  refine PI_imp (pi_range1 g1 (ok.bl "range" (by decide)) ha (star_of h3 _ _)) ?_
  rintro σ H Q ⟨env, ρ, S, Y, fs, po⟩
  simp only [evI] at po
  refine ⟨env, ρ, S, Y, fs, Po.bind po fun ws S1 vs H1 _ st1 cf1 rw1 h1 => ?_⟩
  obtain ⟨j, e1, h1⟩ := Po.orNo h1
  have ev : vs = [.int j] := by
    unfold asI1 at e1
    split at e1
    · cases e1
      cases rw1 with | cons r t => cases t; cases r; rfl
    · cases e1
  split at h1
  · rename_i hc
    obtain ⟨c1, c2⟩ := Bool.and_eq_true_iff.mp hc
    have c1 := of_decide_eq_true c1
    have c2 := of_decide_eq_true c2
    exact ⟨j, ev, c1.1, c1.2, h1 (Itr 0 j.toNat) H1 Ste.refl cf1 ⟨[], wk_range, by rw [rangeL_len, ← lim_eq]; exact c2, fun c hc => absurd hc (by simp)⟩⟩
  · exact h1.elim
theorem s_range2 {eas : Es} {y : Str} {p : Pos} (ok : XOk X O k sc so) (h1 : y = ("range" : Str)) (h2 : glB sc y = true) (h3 : plainX a = true) (h4 : plainX b = true) (ha : PA X [a, b] (tEs (fm X O lo W) eas)) : PI X tg (.Call (.Name y p) [a, b] [] pos) (tI (fm X O lo W) (.range2 eas)) := by
  obtain ⟨g1, g2⟩ := ok.gl h2
  subst h1
  refine PI_imp (pi_range2 g1 (ok.bl "range" (by decide)) ha (by rw [star_of h3, star_of h4]; rfl) (by rw [star_of h4]; rfl)) ?_
  rintro σ H Q ⟨env, ρ, S, Y, fs, po⟩
  simp only [evI] at po
  refine ⟨env, ρ, S, Y, fs, Po.bind po fun ws S1 vs H1 _ st1 cf1 rw1 h1 => ?_⟩
  obtain ⟨⟨i, j⟩, e1, h1⟩ := Po.orNo h1
  have ev : vs = [.int i, .int j] := by
    unfold asI2 at e1
    split at e1
    · cases e1
      cases rw1 with | cons r t => cases t with | cons r' t => cases t; cases r; cases r'; rfl
    · cases e1
  simp only at h1
  split at h1
  · rename_i hc
    obtain ⟨c12, c3⟩ := Bool.and_eq_true_iff.mp hc
    obtain ⟨c1, c2⟩ := Bool.and_eq_true_iff.mp c12
    have c1 := of_decide_eq_true c1
    have c2 := of_decide_eq_true c2
    have c3 := of_decide_eq_true c3
    exact ⟨i, j, ev, ⟨c1.1, c1.2, c2.1, c2.2⟩, h1 (Itr i (j - i).toNat) H1 Ste.refl cf1 ⟨[], wk_range, by rw [rangeL_len, ← lim_eq]; exact c3, fun c hc => absurd hc (by simp)⟩⟩
  · exact h1.elim

/-! ### targets -/
theorem Fs.set {F : Fm} {σ : L2.St} {H : Hp} {env : Env} {ρ Y : List Addr} {S : Sto} (f : Fs F σ H env ρ S Y) {i : Nat} {v : V} {w : Wd} (r : Rw F.K H ρ (mu ρ S Y) v w) : Fs F (σ.set i (some v)) H (env.set i (some w)) ρ S Y := by
  refine ⟨f.cf, by simp [f.er.len], fun j u e => ?_⟩
  by_cases hj : i = j
  · subst hj
    by_cases hl : i < env.length
    · rw [List.getElem?_set_self hl] at e; cases e
      exact ⟨v, by rw [List.getElem?_set_self (by rw [f.er.len]; exact hl)], r⟩
    · rw [List.getElem?_eq_none (by simp; omega)] at e; cases e
  · rw [List.getElem?_set_ne hj] at e ⊢
    exact f.er.at_ j u e
theorem Fs.wipe {F : Fm} {σ : L2.St} {H : Hp} {env : Env} {ρ Y : List Addr} {S : Sto} (f : Fs F σ H env ρ S Y) : ∀ vs : List Nat, Fs F (L2.wipe σ vs) H (wipeE env vs) ρ S Y
  | [] => f
  | v :: vs => by
    have ih := Fs.wipe f vs
    show Fs F ((L2.wipe σ vs).set v none) H ((wipeE env vs).set v none) ρ S Y
    refine ⟨ih.cf, by simp [ih.er.len], fun j u e => ?_⟩
    by_cases hj : v = j
    · subst hj
      by_cases hl : v < (wipeE env vs).length
      · rw [List.getElem?_set_self hl] at e; cases e
      · rw [List.getElem?_eq_none (by simp; omega)] at e; cases e
    · rw [List.getElem?_set_ne hj] at e ⊢
      exact ih.er.at_ j u e
/-- a target takes a datum -/
def tT (F : Fm) (t : T) : TG := fun v σ H Q => ∃ env ρ S Y d env', Fs F σ H env ρ S Y ∧ Rp F.K H (mu ρ S Y) v d ∧ t.put d env = some env' ∧ ∀ σ', (∀ vs : List Nat, (∀ i ∈ t.slots, i ∈ vs) → L2.wipe σ' vs = L2.wipe σ vs) → Fs F σ' H env' ρ S Y → Q σ' H
theorem wipe_set {σ : L2.St} {i : Nat} {v : Option V} : ∀ {vs : List Nat}, i ∈ vs → L2.wipe (σ.set i v) vs = L2.wipe σ vs
  | [], h => by simp at h
  | u :: vs, h => by
    show (L2.wipe (σ.set i v) vs).set u none = (L2.wipe σ vs).set u none
    by_cases hm : i ∈ vs
    · rw [wipe_set hm]
    · have hu : i = u := by simpa [hm] using h
      subst hu
      have : ∀ vs : List Nat, i ∉ vs → L2.wipe (σ.set i v) vs = (L2.wipe σ vs).set i v := by
        intro vs
        induction vs with
        | nil => intro _; rfl
        | cons w vs ih =>
          intro hn
          show (L2.wipe (σ.set i v) vs).set w none = ((L2.wipe σ vs).set w none).set i v
          rw [ih (fun z => hn (by simp [z])), List.set_comm _ _ (fun z => hn (by simp [z]))]
      rw [this vs hm, List.set_set]
theorem s_tgtV (ok : XOk X O k sc so) : ∀ {is : List Nat} {es : List Expr}, tgtV k so is es = true → ∀ {xs : List PyData}, PGs X es (fun vs σ H Q => ∃ env ρ S Y ds, Fs (fm X O lo W) σ H env ρ S Y ∧ RpA X.K H (mu ρ S Y) vs ds ∧ ds.length = is.length ∧
    ∀ σ', (∀ vs : List Nat, (∀ i ∈ is, i ∈ vs) → L2.wipe σ' vs = L2.wipe σ vs) → Fs (fm X O lo W) σ' H (bindAll is ds env) ρ S Y → Q σ' H)
  | [], es, h, _ => by
    cases es with
    | cons e es => simp [tgtV] at h
    | nil =>
      refine ⟨fun pins s σ H vs us Q I r ⟨env, ρ, S, Y, ds, fs, rr, hl, q⟩ => ?_⟩
      cases ds with
      | cons d ds => simp at hl
      | nil =>
        cases rr
        exact pgs_nil.run pins s σ H [] us Q I r ⟨rfl, q σ (fun _ _ => rfl) fs⟩
  | i :: is, es, h, xs => by
    cases es with
    | nil => simp [tgtV] at h
    | cons e es =>
      cases e <;> simp [tgtV] at h
      rename_i x p
      obtain ⟨⟨h1, h2⟩, h3⟩ := h
      obtain ⟨l1, l2⟩ := ok.st x h2
      have ih := s_tgtV ok (is := is) (es := es) h3 (xs := xs)
      refine ⟨fun pins s σ H vs us Q I r ⟨env, ρ, S, Y, ds, fs, rr, hl, q⟩ => ?_⟩
      cases ds with
      | nil => simp at hl
      | cons d ds =>
        cases rr with
        | cons r1 r2 =>
          rename_i v vs'
          refine (pgs_cons (pg_name (i := i) ok.nd (by rw [ok.N]; exact h1) l1 l2) ih (by rfl)).run pins s σ H _ us Q I r ⟨_, _, rfl, ?_⟩
          refine ⟨env.set i (some (.d d)), ρ, S, Y, ds, fs.set r1, r2, by simpa using hl, fun σ' hw fs' => q σ' (fun ws hi => ?_) fs'⟩
          rw [hw ws fun j hj => hi j (by simp [hj]), wipe_set (hi i (by simp))]
def tTs (F : Fm) (ts : Ts) : TGs := fun vs σ H Q => ∃ env ρ S Y ds env', Fs F σ H env ρ S Y ∧ RpA F.K H (mu ρ S Y) vs ds ∧ ts.puts ds env = some env' ∧ ∀ σ', (∀ vs : List Nat, (∀ i ∈ ts.slots, i ∈ vs) → L2.wipe σ' vs = L2.wipe σ vs) → Fs F σ' H env' ρ S Y → Q σ' H
theorem chkT_as {k : Ck} {so : Scope} {t : T} {e : Expr} (h : chkT k so t e = true) (es : List Expr) (env : PySem.Env) : assignEach (e :: es) env = (false, assign e env) :: assignEach es env := by
  cases e <;> first | rfl | (exfalso; cases t <;> simp [chkT] at h)
theorem chkTs_len {k : Ck} {so : Scope} {env : PySem.Env} : ∀ {ts : Ts} {es : List Expr}, chkTs k so ts es = true → (assignEach es env).findIdx? (·.1) = none ∧ (assignEach es env).length = es.length
  | .nil, es, h => by
    cases es with
    | nil => exact ⟨rfl, rfl⟩
    | cons e es => simp [chkTs] at h
  | .cons t ts, es, h => by
    cases es with
    | nil => simp [chkTs] at h
    | cons e es =>
      simp only [chkTs] at h
      obtain ⟨h1, h2⟩ := Bool.and_eq_true_iff.mp h
      obtain ⟨g1, g2⟩ := chkTs_len (env := env) h2
      rw [chkT_as h1]
      exact ⟨by rw [List.findIdx?_cons, g1]; rfl, by simp [g2]⟩
theorem puts_len {env env' : Env} : ∀ {ts : Ts} {ds : List PyData} {es : List Expr} {k : Ck} {so : Scope} {env env' : Env}, ts.puts ds env = some env' → chkTs k so ts es = true → ds.length = es.length
  | .nil, ds, es, k, so, env, env', h, c => by
    cases es with
    | nil => cases ds with
      | nil => rfl
      | cons d ds => simp [Ts.puts] at h
    | cons e es => simp [chkTs] at c
  | .cons t ts, ds, es, k, so, env, env', h, c => by
    cases es with
    | nil => simp [chkTs] at c
    | cons e es =>
      cases ds with
      | nil => simp [Ts.puts] at h
      | cons d ds =>
        simp only [Ts.puts] at h
        obtain ⟨e1, h1, h2⟩ := Option.bind_eq_some_iff.mp h
        simp only [chkTs] at c
        simp [puts_len (env := env) (env' := env') h2 (Bool.and_eq_true_iff.mp c).2]
mutual
theorem s_tgt (ok : XOk X O k sc so) : ∀ {t : T} {tg : Expr}, chkT k so t tg = true → PG X tg (tT (fm X O lo W) t)
  | .v i, tg, h => by
    cases tg <;> simp [chkT] at h
    rename_i x p
    obtain ⟨h1, h2⟩ := h
    obtain ⟨l1, l2⟩ := ok.st x h2
    refine ⟨fun pins s σ H v u Q I r ⟨env, ρ, S, Y, d, env', fs, rp, e, q⟩ => ?_⟩
    simp only [T.put] at e
    cases e
    exact (pg_name (i := i) ok.nd (by rw [ok.N]; exact h1) l1 l2).run pins s σ H v u Q I r (q _ (fun vs hi => wipe_set (hi i (by simp [T.slots]))) (fs.set rp))
  | .tup is, tg, h => by
    cases tg <;> simp [chkT] at h
    rename_i es kk p
    refine ⟨fun pins s σ H v u Q I r ⟨env, ρ, S, Y, d, env', fs, rp, e, q⟩ => ?_⟩
    cases d <;> simp [T.put] at e
    obtain ⟨hl, e⟩ := e
    subst e
    cases rp with
    | @tup a xs ds sq rr =>
      have hle : ∀ {is : List Nat} {es : List Expr}, tgtV k so is es = true → es.length = is.length ∧ (assignEach es X.env).findIdx? (·.1) = none ∧ (assignEach es X.env).length = es.length := by
        intro is
        induction is with
        | nil => intro es h; cases es <;> simp [tgtV] at h; exact ⟨rfl, rfl, rfl⟩
        | cons i is ih =>
          intro es h
          cases es with
          | nil => simp [tgtV] at h
          | cons e es =>
            cases e <;> simp [tgtV] at h
            obtain ⟨h1, h2, h3⟩ := ih h.2
            refine ⟨by simp [h1], ?_, ?_⟩
            · show List.findIdx? (·.1) ((false, _) :: assignEach es X.env) = none
              rw [List.findIdx?_cons, h2]; rfl
            · show ((false, _) :: assignEach es X.env).length = _
              simp [h3]
      obtain ⟨h1, h2, h3⟩ := hle h
      exact (pg_tup (n := is.length) ok.calm (s_tgtV (lo := lo) (W := W) ok h (xs := [])) (by rw [h3, h1]) h2).run pins s σ H _ u Q I r ⟨a, xs, rfl, sq, by rw [rr.len]; exact hl, env, ρ, S, Y, _, fs, rr, hl, q⟩
  | .nest ts, tg, h => by
    cases tg <;> simp [chkT] at h
    rename_i es kk p
    refine ⟨fun pins s σ H v u Q I r ⟨env, ρ, S, Y, d, env', fs, rp, e, q⟩ => ?_⟩
    cases d <;> simp only [T.put, reduceCtorEq] at e
    rename_i ds
    cases rp with
    | @tup a xs _ sq rr =>
      have e : ts.puts ds env = some env' := e
      obtain ⟨h2, h3⟩ := chkTs_len (env := X.env) h
      exact (pg_tup (n := es.length) ok.calm (s_tgts ok h) h3 h2).run pins s σ H _ u Q I r ⟨a, xs, rfl, sq, by rw [rr.len]; exact puts_len (env := env) (env' := env') e h, env, ρ, S, Y, ds, env', fs, rr, e, q⟩
theorem s_tgts (ok : XOk X O k sc so) : ∀ {ts : Ts} {es : List Expr}, chkTs k so ts es = true → PGs X es (tTs (fm X O lo W) ts)
  | .nil, es, h => by
    cases es with
    | cons e es => simp [chkTs] at h
    | nil =>
      refine ⟨fun pins s σ H vs us Q I r ⟨env, ρ, S, Y, ds, env', fs, rr, e, q⟩ => ?_⟩
      cases ds with
      | cons d ds => simp [Ts.puts] at e
      | nil =>
        simp only [Ts.puts] at e
        cases e
        cases rr
        exact pgs_nil.run pins s σ H [] us Q I r ⟨rfl, q σ (fun _ _ => rfl) fs⟩
  | .cons t ts, es, h => by
    cases es with
    | nil => simp [chkTs] at h
    | cons e es =>
      simp only [chkTs] at h
      obtain ⟨h1, h2⟩ := Bool.and_eq_true_iff.mp h
      have g1 : PG X e (tT (fm X O lo W) t) := s_tgt ok h1
      have g2 : PGs X es (tTs (fm X O lo W) ts) := s_tgts ok h2
      refine ⟨fun pins s σ H vs us Q I r ⟨env, ρ, S, Y, ds, env', fs, rr, e, q⟩ => ?_⟩
      cases ds with
      | nil => simp [Ts.puts] at e
      | cons d ds =>
        simp only [Ts.puts] at e
        obtain ⟨env1, e1, e2⟩ := Option.bind_eq_some_iff.mp e
        cases rr with
        | cons r1 r2 =>
          refine (pgs_cons g1 g2 (by rw [chkT_as h1]; rfl)).run pins s σ H _ us Q I r ⟨_, _, rfl, ?_⟩
          refine ⟨env, ρ, S, Y, d, env1, fs, r1, e1, fun σ1 hw1 fs1 => ⟨env1, ρ, S, Y, ds, env', fs1, r2, e2, fun σ2 hw2 fs2 => q σ2 (fun ws hi => ?_) fs2⟩⟩
          rw [hw2 ws fun j hj => hi j (by simp [Ts.slots, hj]), hw1 ws fun j hj => hi j (by simp [Ts.slots, hj])]
end
end
end Rf
namespace Rf
open PySem PySem.Spec PyProof.Rows L2
section
variable {K : Frag} {H1 : Hp} {M1 : Pr} {a b : Addr} {xs ys : List V} {ds es : List PyData}
theorem Kp.sub {B B' : List Addr} {H H' : Hp} (h : Kp B H H') (hs : ∀ x ∈ B', x ∈ B) : Kp B' H H' := fun c o e q => h c o e (q.imp (hs c) id)
/-- a list that is walked: how it stays -/
def Stays (K : Frag) (B : List Addr) (P : Hp → Prop) : Prop := ∀ H H', P H → Kp B H H' → P H'
theorem zip_len : ∀ (ds es : List PyData), (zipL ds es).length = min ds.length es.length
  | [], es => by simp [zipL]
  | d :: ds, [] => by simp [zipL]
  | d :: ds, e :: es => by
    show (zipL ds es).length + 1 = _
    rw [zip_len ds es]
    simp
theorem zip_get : ∀ (ds es : List PyData) (i : Nat) (d e : PyData), ds[i]? = some d → es[i]? = some e → (zipL ds es)[i]? = some (.tuple [d, e])
  | [], _, _, _, _, h, _ => by simp at h
  | _ :: _, [], _, _, _, _, h => by simp at h
  | x :: ds, y :: es, 0, d, e, h1, h2 => by
    simp at h1 h2
    subst h1 h2
    rfl
  | x :: ds, y :: es, i + 1, d, e, h1, h2 => by
    show (zipL ds es)[i]? = _
    exact zip_get ds es i d e (by simpa using h1) (by simpa using h2)
theorem walk_zipT {n : Nat} (hn : n = min xs.length ys.length) : Walk (RZ.ItzT K a b) n (fun H => SqT K H a xs ∧ SqT K H b ys) (YPair (fun i => xs[i]?) (fun i => ys[i]?)) := by
  subst hn
  refine ⟨fun i _ hi q => ⟨xs, ys, xs[i]'(by omega), ys[i]'(by omega), q.1, q.2, List.getElem?_eq_getElem _, List.getElem?_eq_getElem _⟩, fun _ q => ⟨xs, ys, q.1, q.2, by omega⟩, fun i H v H' _ q y => ?_⟩
  obtain ⟨T, x, z, h1, h2, h3, h4, h5⟩ := y
  exact ⟨T, x, z, h1, h2, h3, h4 xs q.1, h5 ys q.2⟩
theorem wk_pair {J : It} {B : List Addr} {G : Hp → Prop} (w : Walk J (min xs.length ys.length) G (YPair (fun i => xs[i]?) (fun i => ys[i]?))) (g : G H1) (st : Stays K B G) (r : RpA K H1 M1 xs ds) (q : RpA K H1 M1 ys es) : Wk K J H1 M1 (zipL ds es) B := by
  refine ⟨G, YPair (fun i => xs[i]?) (fun i => ys[i]?), by rw [zip_len, ← r.len, ← q.len]; exact w, g, st, fun i H x H' M hi gH al hr ⟨T, u, v, e1, e2, e3, e4, e5⟩ => ?_⟩
  subst e1 e3
  obtain ⟨d, h1, h2⟩ := r.at e4
  obtain ⟨e, h3, h4⟩ := q.at e5
  obtain ⟨sm, rp⟩ := rp_newT (M := M) al e2 (.cons (hr _ _ h2) (.cons (hr _ _ h4) .nil))
  exact ⟨sm, _, zip_get ds es i d e h1 h3, rp⟩
end
section
variable {X : Cx} {O : Orc} {k : Ck} {sc so : Scope} {lo : Nat} {W : WX} {a b c tg : Expr} {ea eb ec : E} {pos : Pos}
/-- a list as an argument of zip -/
theorem lst_stay {K : Frag} {H1 : Hp} {ρ Y : List Addr} {S1 : Sto} {v : V} {w : Wd} {ds : List PyData} (cf : Cf ω K H1 ρ S1 Y) (r : Rw K H1 ρ (mu ρ S1 Y) v w) (p : peek S1 w = some (.list ds)) : ∃ (b : Addr) (vs : List V) (B : List Addr), v = .ref b ∧ SqL K H1 b vs ∧ RpA K H1 (mu ρ S1 Y) vs ds ∧
    Stays K B (fun H => SqL K H b vs) ∧ ∀ c ∈ B, (∃ n, w = .r n ∧ ρ[n]? = some c) ∨ ¬ mu ρ S1 Y c := by
  obtain ⟨b, vs, e3, sq, rr⟩ := (Vw.of cf r p).list
  cases w with
  | r n =>
    obtain ⟨b', e4, e5⟩ := r
    rw [e3] at e5; cases e5
    refine ⟨b, vs, [b], e3, sq, rr, fun H H' q kk => kp_list (by simp) q kk, fun c hc => .inl ⟨n, rfl, ?_⟩⟩
    rw [List.mem_singleton.mp hc]; exact e4
  | d x0 =>
    cases p
    cases r with
    | lst l r' =>
      cases e3
      rcases l with ⟨l0, l⟩ | l
      · refine ⟨b, vs, [b], rfl, sq, rr, fun H H' q kk => kp_list (by simp) q kk, fun c hc => .inr ?_⟩
        rw [List.mem_singleton.mp hc]; exact l
      · exact ⟨b, _, [], rfl, .inr l, r', fun H H' _ _ => .inr l, fun c hc => absurd hc List.not_mem_nil⟩
theorem s_zip {eas : Es} {y : Str} {p tpos : Pos} {elts : List Expr} {kk : Nat} (ok : XOk X O k sc so) (h1 : y = ("zip" : Str)) (h2 : glB sc y = true) (h3 : plainX a = true) (h4 : plainX b = true) (ha : PA X [a, b] (tEs (fm X O lo W) eas)) : PI X (.Tuple elts kk tpos) (.Call (.Name y p) [a, b] [] pos) (tI (fm X O lo W) (.zip eas)) := by
  obtain ⟨gg1, gg2⟩ := ok.gl h2
  subst h1
  refine PI_imp (PI_len (RZ.pi_zipA gg1 (ok.bl "zip" (by decide)) ha (by rw [star_of h3]) (by rw [star_of h4]; rfl))) ?_
  rintro σ H Q ⟨env, ρ, S, Y, fs, po⟩
  simp only [evI] at po
  refine ⟨env, ρ, S, Y, fs, Po.bind po fun ws S1 vs H1 _ st1 cf1 rw1 h1 => ?_⟩
  obtain ⟨xs, e1, h1⟩ := Po.orNo h1
  obtain ⟨q, e2, h1⟩ := Po.orNo h1
  cases rw1 with
  | nil => cases e1; cases e2
  | @cons v w vs1 ws1 r1 t1 =>
    cases t1 with
    | nil =>
      unfold peeks at e1
      obtain ⟨x1, f1, e1⟩ := Option.bind_eq_some_iff.mp e1
      cases e1
      cases x1 <;> cases e2
    | @cons v2 w2 vs2 ws2 r2 t2 =>
      have e1 : ((peek S1 w).bind fun x => ((peek S1 w2).bind fun x => (peeks S1 ws2).map (x :: ·)).map (x :: ·)) = some xs := e1
      obtain ⟨x1, f1, g1⟩ := Option.bind_eq_some_iff.mp e1
      obtain ⟨ys1, g2, g3⟩ := Option.map_eq_some_iff.mp g1
      obtain ⟨x2, f2, g4⟩ := Option.bind_eq_some_iff.mp g2
      obtain ⟨ys2, g5, g6⟩ := Option.map_eq_some_iff.mp g4
      subst g6 g3
      clear e1 g1 g2 g4
      cases t2 with
      | cons r3 t3 =>
        exfalso
        unfold peeks at g5
        obtain ⟨x3, f3, g7⟩ := Option.bind_eq_some_iff.mp g5
        obtain ⟨ys3, g8, g9⟩ := Option.map_eq_some_iff.mp g7
        subst g9
        cases x1 <;> cases x2 <;> cases e2
      | nil =>
        cases g5
        have h2 : (∃ ds es, x1 = .list ds ∧ x2 = .list es ∧ q = (ds, es)) ∨ ∃ ds es, x1 = .tuple ds ∧ x2 = .tuple es ∧ q = (ds, es) := by
          cases x1 <;> cases x2 <;> first | (cases e2; exact .inl ⟨_, _, rfl, rfl, rfl⟩) | (cases e2; exact .inr ⟨_, _, rfl, rfl, rfl⟩) | cases e2
        rcases h2 with ⟨ds, es, rfl, rfl, rfl⟩ | ⟨ds, es, rfl, rfl, rfl⟩
        · obtain ⟨b1, vs1, B1, rfl, s1, p1, k1, m1⟩ := lst_stay cf1 r1 f1
          obtain ⟨b2, vs2, B2, rfl, s2, p2, k2, m2⟩ := lst_stay cf1 r2 f2
          refine ⟨b1, b2, vs1, vs2, rfl, .inl ⟨s1, s2, fun hl => ?_⟩⟩
          refine h1 (Itz X.K b1 b2) H1 Ste.refl cf1 ⟨B1 ++ B2, wk_pair (walk_zip rfl) ⟨s1, s2⟩ (fun H H' q kp => ⟨k1 H H' q.1 (kp.sub fun x hx => List.mem_append_left _ hx), k2 H H' q.2 (kp.sub fun x hx => List.mem_append_right _ hx)⟩) p1 p2, ?_, fun c hc => ?_⟩
          · have := hl b1 vs1 (.inl s1)
            show (zipL ds es).length ≤ sizeLine
            rw [zip_len, ← p1.len]
            omega
          · rcases List.mem_append.mp hc with hc | hc
            · rcases m1 c hc with ⟨n, e, z⟩ | z
              · exact .inl ⟨n, by rw [e]; simp, z⟩
              · exact .inr z
            · rcases m2 c hc with ⟨n, e, z⟩ | z
              · exact .inl ⟨n, by rw [e]; simp, z⟩
              · exact .inr z
        · obtain ⟨b1, vs1, rfl, s1, p1⟩ := (Vw.of cf1 r1 f1).tuple
          obtain ⟨b2, vs2, rfl, s2, p2⟩ := (Vw.of cf1 r2 f2).tuple
          refine ⟨b1, b2, vs1, vs2, rfl, .inr ⟨s1, s2, fun hl => ?_⟩⟩
          refine h1 (RZ.ItzT X.K b1 b2) H1 Ste.refl cf1 ⟨[], wk_pair (walk_zipT rfl) ⟨s1, s2⟩ (fun H H' q kp => ⟨kp_tup q.1 kp, kp_tup q.2 kp⟩) p1 p2, ?_, fun c hc => absurd hc List.not_mem_nil⟩
          have := hl b1 vs1 (.inr s1)
          show (zipL ds es).length ≤ sizeLine
          rw [zip_len, ← p1.len]
          omega
end
end Rf
namespace Rf
open PySem PySem.Spec PyProof.Rows L2
open PySem.W in
theorem enum_new1 {v : Value} {o : Obj} {G : Heap → Prop} (B : Begins v o G) : Meets (Builtin.«enumerate.__new__» ⟨[.type "enumerate", v], []⟩) (fun _ R s => G s.heap ∧
    R (.ok (.ret (.ref (s.heap.push o).objs.size))) { s with heap := (s.heap.push o).push { cls := .type "enumerate", data := .fields #[.none, .bool false, .ref s.heap.objs.size, rawInt 0, .none, .none] } }) :=
  .of_wp fun P w A R s h => by
    obtain ⟨hp, g, d, tk, os⟩ := s
    obtain ⟨h1, h⟩ := h
    have hsub := sub_enumerate
    have qq : ∀ {A' : Around} {Ex : Value → Shared → Prop} {Q : Value → Shared → Prop}, Q (.ref hp.objs.size) ⟨hp.push o, g, d, tk, os⟩ → wpAny (model P w) A' (pyIter v) Q Ex ⟨hp, g, d, tk, os⟩ := fun q => B.iter P w _ _ ⟨hp, g, d, tk, os⟩ _ h1 q
    wp_walk using qq
    refine wpAny_stack_any fun st => wpAny_pure ?_
    split
    · rename_i c _ _ _ _ _
      cases (c == Value.type "enumerate") <;> (wp_walk using qq; exact ⟨_, rfl, h⟩)
    · wp_walk using qq
      exact ⟨_, rfl, h⟩
theorem call_enumT {P : Program} {w : World} {A : Around} {Ex : Value → Shared → Prop} {s : Shared} {v : Value} {o : Obj} {G : Heap → Prop} {Q : Value → Shared → Prop} (B : PySem.Begins v o G) (h1 : G s.heap)
    (q : ∀ h', IsEnum h' (s.heap.objs.size + 1) s.heap.objs.size 0 .none → h'.get? s.heap.objs.size = some o → (∀ b u, s.heap.get? b = some u → h'.get? b = some u) → Q (.ref (s.heap.objs.size + 1)) { s with heap := h' }) :
    wpAny (model P w) A (call (.type "enumerate") [v]) Q Ex s := by
  refine callType_new F.called_enumerate (by decide) (F.typeCall_enumerate_1 _) (F.newCall_enumerate_1 _) (fun obj => F.args_object_init_2 obj _) F.entry_enumerate_new (enum_new1 B) ⟨h1, ?_⟩
  have sz : (s.heap.push o).objs.size = s.heap.objs.size + 1 := Heap.size_push ..
  show _ ∧ _
  rw [sz]
  have e : IsEnum ((s.heap.push o).push { cls := .type "enumerate", data := .fields #[.none, .bool false, .ref s.heap.objs.size, rawInt 0, .none, .none] }) (s.heap.objs.size + 1) s.heap.objs.size 0 .none := by
    have z := Heap.get?_push_size (s.heap.push o) (o := { cls := .type "enumerate", data := .fields #[.none, .bool false, .ref s.heap.objs.size, rawInt 0, .none, .none] }) rfl
    rw [sz] at z
    exact z
  exact ⟨⟨_, e, rfl⟩, q _ e (Heap.get?_push_of_some _ (Heap.get?_push_size _ B.free)) fun b u x => Heap.get?_push_of_some _ (Heap.get?_push_of_some _ x)⟩
def IteT (K : Frag) (a : Addr) : It :=
  ⟨fun i H => ∃ (xs : List V) (x : V), SqT K H a xs ∧ xs[i]? = some x, fun i H v H' => ∃ T x, v = .ref T ∧ H T = none ∧ H' = upd H T (.tup [.int (i : Nat), x]) ∧ ∀ xs, SqT K H a xs → xs[i]? = some x, fun i H => ∃ xs : List V, SqT K H a xs ∧ xs.length = i⟩
theorem turn_enumT {P : Program} {w : World} {K : Frag} {elts : List Expr} {kk : Nat} {tpos : Pos} (a e it : Addr) :
    Turn P w K (.Tuple elts kk tpos) (IteT K a) [e, it] e (fun i h => (∃ old, IsEnum h e it ((i : Nat) : Int) old) ∧ h.IsTupleIter it a i ∧ e ≠ it ∧ a ≠ it ∧ e ≠ a) where
  mem := List.mem_cons_self ..
  obj := fun i h st b hb => by
    obtain ⟨⟨_, isE⟩, ⟨o, ho, _, hd⟩, _⟩ := st
    rcases List.mem_cons.mp hb with hb | hb
    · exact hb ▸ ⟨_, isE, fun _ q => nomatch q⟩
    · rw [List.mem_singleton.mp hb]; exact ⟨o, ho, fun v q => by rw [hd] at q; cases q⟩
  keep := fun i h h' ⟨⟨old, isE⟩, isI, ne⟩ same => ⟨⟨old, same e (by simp) _ isE⟩, isI.at fun o q => same it (by simp) o q, ne⟩
  item := by
    intro X hP hw hK hc i pins s σ H Ex I hf st hg
    subst hP hw hK
    obtain ⟨⟨old, he⟩, hit, n1, n2, n3⟩ := st
    obtain ⟨xs, x, hq, hx⟩ := hg
    obtain ⟨its, rv, p, hz⟩ := I.tuple hq
    obtain ⟨u, hu, ru⟩ := rv.get hx
    have lt : i < its.toArray.size := by
      rw [List.size_toArray]
      exact (List.getElem?_eq_some_iff.mp hu).1
    have el : e < s.heap.objs.size := Heap.lt_size he
    have il : it < s.heap.objs.size := by obtain ⟨_, q, _⟩ := hit; exact Heap.lt_size q
    have D := PySem.Draws.tuple (prog := X.prog) (w := X.w) (A := X.A.in1) (I.ok.hd hc) it a n2 its.toArray
    refine wpAny_pyNext_enum_itemD D he ⟨hit, p⟩ lt n1 (by simp [n1, n3]) fun y h' tk hy ho st' hT hsz hk => ?_
    have ey : y = u := by
      have hy : its.toArray[i]? = some y := hy
      rw [List.getElem?_toArray, hu] at hy
      exact (Option.some.inj hy).symm
    subst ey
    refine ⟨_, rfl, wpAny_letOwnedTupleGo_enum (s := { s with heap := h', toks := tk + 1 }) ho fun h2 he2 sb => ?_⟩
    have hT2 : h2.get? s.heap.objs.size = some { cls := .type "tuple", data := .seq #[.int i tk, y] } := (sb.2 _ (Nat.ne_of_gt el)).trans hT
    have new : ObjOk X.prog X.w (upd H s.heap.objs.size (.tup [.int (i : Nat), x])) h2 s.heap.objs.size (.tup [.int (i : Nat), x]) :=
      ⟨(by decide : 2 ≤ sizeLine), [.int i tk, y], .cons ⟨_, rfl⟩ (.cons ru .nil), ⟨_, hT2, rfl, _, rfl⟩⟩
    have I1 : L2.Inv X pins σ (upd H s.heap.objs.size (.tup [.int (i : Nat), x])) { s with heap := h2, toks := tk + 1 } :=
      I.turnedNew (ch := [e, it]) (fun b ob hb q => (sb.2 b (fun z => hb (by simp [z]))).trans (hk b ob (fun z => hb (by simp [z])) (fun z => hb (by simp [z])) q)) hf (Nat.le_refl _) new
    refine ⟨.ref s.heap.objs.size, _, I1, rfl, ⟨_, x, rfl, I.hok.fresh (Nat.le_refl _), rfl, fun ys hy => ?_⟩, ⟨⟨y, ?_⟩, st'.1.at fun o q => (sb.2 it (Ne.symm n1)).trans q, n1, n2, n3⟩, fun b hb => ?_⟩
    · rw [I.tuple_inj hy hq]; exact hx
    · rw [show ((i + 1 : Nat) : Int) = (i : Int) + 1 by omega]; exact he2
    · have lb : b < s.heap.objs.size := by
        rcases List.mem_cons.mp hb with z | z
        · rw [z]; exact el
        · rw [List.mem_singleton.mp z]; exact il
      rw [upd_ne (Nat.ne_of_lt lb)]
      exact (hf b hb).1
  done := by
    intro X hP hw hK hc i pins s σ H Ex I hf st hg
    subst hP hw hK
    obtain ⟨⟨old, he⟩, hit, n1, n2, n3⟩ := st
    obtain ⟨xs, hq, hx⟩ := hg
    obtain ⟨its, rv, p, hz⟩ := I.tuple hq
    obtain ⟨f0, f1, f2, f3, f4, f5⟩ := hf it (by simp)
    have sz : its.toArray.size = i := by rw [List.size_toArray, ← rv.length]; exact hx
    have D := PySem.Draws.tuple (prog := X.prog) (w := X.w) (A := X.A.in1) (I.ok.hd hc) it a n2 its.toArray
    rw [← sz] at hit
    exact wpAny_pyNext_enum_endD D he ⟨hit, p⟩ fun h' eb => ⟨rfl, I.turned (t' := s.toks) (fun b o hb q => eb b o hb q) f0 f1 f3 f4 f5⟩
  self := fun A i s Q Ex st h => let ⟨⟨_, he⟩, _⟩ := st; wpAny_pyIter_enum he h
theorem walk_enumT {K : Frag} {a : Addr} {xs : List V} : Walk (IteT K a) xs.length (fun H => SqT K H a xs) (YPair (fun i => some (.int (i : Nat))) (fun i => xs[i]?)) := by
  refine ⟨fun i _ hi q => ⟨xs, xs[i], q, List.getElem?_eq_getElem hi⟩, fun _ q => ⟨xs, q, rfl⟩, fun i H v H' _ q y => ?_⟩
  obtain ⟨T, x, h1, h2, h3, h4⟩ := y
  exact ⟨T, .int (i : Nat), x, h1, h2, h3, rfl, h4 xs q⟩
theorem enum_len : ∀ (ds : List PyData) (n : Nat), (enumL n ds).length = ds.length
  | [], _ => rfl
  | d :: r, n => by
    show (enumL (n + 1) r).length + 1 = r.length + 1
    rw [enum_len r]
theorem enum_get : ∀ (ds : List PyData) (n i : Nat) (d : PyData), ds[i]? = some d → (enumL n ds)[i]? = some (.tuple [.int ((n + i : Nat) : Int), d])
  | [], _, _, _, h => by simp at h
  | x :: r, n, 0, d, h => by
    simp at h
    subst h
    rfl
  | x :: r, n, i + 1, d, h => by
    show (enumL (n + 1) r)[i]? = _
    rw [enum_get r (n + 1) i d (by simpa using h)]
    rw [show n + 1 + i = n + (i + 1) by omega]
theorem wk_enum {K : Frag} {H1 : Hp} {M1 : Pr} {J : It} {B : List Addr} {G : Hp → Prop} {xs : List V} {ds : List PyData} (w : Walk J xs.length G (YPair (fun i => some (.int (i : Nat))) (fun i => xs[i]?))) (g : G H1) (st : Stays K B G) (r : RpA K H1 M1 xs ds) : Wk K J H1 M1 (enumL 0 ds) B := by
  refine ⟨G, YPair (fun i => some (.int (i : Nat))) (fun i => xs[i]?), by rw [enum_len, ← r.len]; exact w, g, st, fun i H x H' M hi gH al hr ⟨T, u, v, e1, e2, e3, e4, e5⟩ => ?_⟩
  subst e1 e3
  cases e4
  obtain ⟨d, h1, h2⟩ := r.at e5
  obtain ⟨sm, rp⟩ := rp_newT (M := M) al e2 (.cons (.int (i : Nat)) (.cons (hr _ _ h2) .nil))
  refine ⟨sm, _, enum_get ds 0 i d h1, ?_⟩
  rw [Nat.zero_add]; exact rp
def iEnumA (K : Frag) (ta : TA) : TI := fun σ H R => ta σ H fun vs H1 => ∃ a xs, vs = [.ref a] ∧ ((SqL K H1 a xs ∧ R (Ite K a) H1) ∨ (SqT K H1 a xs ∧ R (IteT K a) H1))
theorem pi_enumA {X : Cx} {e : Expr} {ta : TA} {p pos tpos : Pos} {elts : List Expr} {kk : Nat} (hg : Gl X "enumerate") (hm : X.mg "enumerate" = none) (ha : PA X [e] ta) (hs : starEach [e] X.env = [(false, eval e X.env)]) :
    PI X (.Tuple elts kk tpos) (.Call (.Name "enumerate" p) [e] [] pos) (iEnumA X.K ta) := by
  refine ⟨fun pins s σ H R I h => Call_ (ld_blt I hg hm PyProof.Rows.boot_enumerate (PyProof.Rows.callWith_type1 (thn (ha.run pos pins s σ H _ I h) fun us s1 ⟨vs, H1, I1, r1, a, xs, ex, q1⟩ => ?_) hs rfl))⟩
  subst ex
  cases r1 with
  | cons r rr =>
    cases rr
    cases r
    have fresh : ∀ b ∈ [s1.heap.objs.size + 1, s1.heap.objs.size], FpOk X pins H1 b := fun b hb => by
      have le : s1.heap.objs.size ≤ b := by
        rcases List.mem_cons.mp hb with z | z
        · rw [z]; exact Nat.le_add_right _ _
        · rw [List.mem_singleton.mp z]; exact Nat.le_refl _
      exact I1.fpOk le (I1.hok.fresh le)
    rcases q1 with ⟨hq, q⟩ | ⟨hq, q⟩
    · obtain ⟨its, rv, p', hz⟩ := I1.list hq
      refine call_enumerate_list p'.isList fun h' he hit hsz hk => wpAny_pyIter_enum he ?_
      exact ⟨s1.heap.objs.size + 1, [s1.heap.objs.size + 1, s1.heap.objs.size], _, _, H1, rfl, I1.kept (t' := s1.toks) hk, turn_enum a (s1.heap.objs.size + 1) s1.heap.objs.size, ⟨⟨.none, he⟩, hit, Nat.succ_ne_self _⟩, fresh, q⟩
    · obtain ⟨its, rv, p', hz⟩ := I1.tuple hq
      have la : a < s1.heap.objs.size := by
        obtain ⟨o, ho, _⟩ := id p'
        exact Heap.lt_size ho
      refine call_enumT (begins_tuple a its.toArray) p' fun h' he ho hk => wpAny_pyIter_enum he ?_
      exact ⟨s1.heap.objs.size + 1, [s1.heap.objs.size + 1, s1.heap.objs.size], _, _, H1, rfl, I1.kept (t' := s1.toks) hk, turn_enumT a (s1.heap.objs.size + 1) s1.heap.objs.size,
        ⟨⟨.none, he⟩, ⟨_, ho, rfl, rfl⟩, Nat.succ_ne_self _, Nat.ne_of_lt la, Nat.ne_of_gt (Nat.lt_succ_of_lt la)⟩, fresh, q⟩
section
variable {X : Cx} {O : Orc} {k : Ck} {sc so : Scope} {lo : Nat} {W : WX} {a b c tg : Expr} {ea eb ec : E} {pos : Pos}
theorem s_enum {eas : Es} {y : Str} {p tpos : Pos} {elts : List Expr} {kk : Nat} (ok : XOk X O k sc so) (h1 : y = ("enumerate" : Str)) (h2 : glB sc y = true) (h3 : plainX a = true) (ha : PA X [a] (tEs (fm X O lo W) eas)) : PI X (.Tuple elts kk tpos) (.Call (.Name y p) [a] [] pos) (tI (fm X O lo W) (.enum eas)) := by
  obtain ⟨gg1, gg2⟩ := ok.gl h2
  subst h1
  refine PI_imp (PI_len (pi_enumA gg1 (ok.bl "enumerate" (by decide)) ha (star_of h3 _ _))) ?_
  rintro σ H Q ⟨env, ρ, S, Y, fs, po⟩
  simp only [evI] at po
  refine ⟨env, ρ, S, Y, fs, Po.bind po fun ws S1 vs H1 _ st1 cf1 rw1 h1 => ?_⟩
  obtain ⟨xs, e1, h1⟩ := Po.orNo h1
  obtain ⟨q, e2, h1⟩ := Po.orNo h1
  cases rw1 with
  | nil => cases e1; cases e2
  | @cons v w vs1 ws1 r1 t1 =>
    have e1 : ((peek S1 w).bind fun x => (peeks S1 ws1).map (x :: ·)) = some xs := e1
    obtain ⟨x1, f1, g1⟩ := Option.bind_eq_some_iff.mp e1
    obtain ⟨ys1, g2, g3⟩ := Option.map_eq_some_iff.mp g1
    subst g3
    cases t1 with
    | @cons v2 w2 vs2 ws2 r2 t2 =>
      exfalso
      have g2 : ((peek S1 w2).bind fun x => (peeks S1 ws2).map (x :: ·)) = some ys1 := g2
      obtain ⟨x2, f2, g4⟩ := Option.bind_eq_some_iff.mp g2
      obtain ⟨ys2, g5, g6⟩ := Option.map_eq_some_iff.mp g4
      subst g6
      cases x1 <;> cases e2
    | nil =>
      cases g2
      have h2 : (∃ ds, x1 = .list ds ∧ q = ds) ∨ ∃ ds, x1 = .tuple ds ∧ q = ds := by
        cases x1 <;> first | (cases e2; exact .inl ⟨_, rfl, rfl⟩) | (cases e2; exact .inr ⟨_, rfl, rfl⟩) | cases e2
      rcases h2 with ⟨ds, rfl, rfl⟩ | ⟨ds, rfl, rfl⟩
      · obtain ⟨b1, vs1, B1, rfl, s1, p1, k1, m1⟩ := lst_stay cf1 r1 f1
        refine ⟨b1, vs1, rfl, .inl ⟨s1, fun hl => h1 (Ite X.K b1) H1 Ste.refl cf1 ⟨B1, wk_enum walk_enum s1 k1 p1, ?_, fun c hc => ?_⟩⟩⟩
        · rw [enum_len, ← p1.len]; exact hl b1 vs1 (.inl s1)
        · rcases m1 c hc with ⟨n, e, z⟩ | z
          · exact .inl ⟨n, by rw [e]; simp, z⟩
          · exact .inr z
      · obtain ⟨b1, vs1, rfl, s1, p1⟩ := (Vw.of cf1 r1 f1).tuple
        refine ⟨b1, vs1, rfl, .inr ⟨s1, fun hl => h1 (IteT X.K b1) H1 Ste.refl cf1 ⟨[], wk_enum walk_enumT s1 (fun H H' q kp => kp_tup q kp) p1, ?_, fun c hc => absurd hc List.not_mem_nil⟩⟩⟩
        rw [enum_len, ← p1.len]; exact hl b1 vs1 (.inr s1)
end
end Rf
namespace Rf
open PySem PySem.Spec PyProof.Rows L2
abbrev IsZG (h : Heap) (z TI TO : Addr) (f0 f1 : Value) : Prop :=
  h.get? z = some { cls := .type "zip", dict := none, data := .fields #[f0, f1, .bool false, .ref TI, .ref TO], slots := #[] }
/-- what a zip's first two fields may be -/
def ZF (f0 f1 : Value) : Prop := (f0 = .none ∨ ∃ n : Int, f0 = rawInt n) ∧ ∃ b, f1 = .bool b
section
variable {prog : Program} {w : World} {A : Around} {E : Value → Shared → Prop} {s : Shared}
theorem wpAny_ifAlive {M : Model} {a : Addr} {Q : Option Obj → Shared → Prop} (h : Q (s.heap.get? a) s) : wpAny M A (loadIfAlive a) Q E s := fun Γ p hΓ => by
  unfold loadIfAlive
  rw [Sem.wp_loadIfAlive]
  exact h
/-- is the tuple that it owns free: either way -/
theorem zipFree {z TI TO : Addr} {f0 f1 : Value} {Q : Bool → Shared → Prop} (hz : IsZG s.heap z TI TO f0 f1) (hf : ZF f0 f1) (h1 : Q true s)
    (h2 : ∀ h', IsZG h' z TI TO f0 (.bool true) → Heap.SameBut z s.heap h' → Q false { s with heap := h' }) :
    wpAny (model prog w) A (Builtin.SmallTypes.ownedTupleIsFree (.ref z)) Q E s := by
  unfold Builtin.SmallTypes.ownedTupleIsFree
  obtain ⟨hf0, b, rfl⟩ := hf
  refine wpAny_bind (wpAny_field hz rfl (x := f0) rfl ?_)
  rcases hf0 with rfl | ⟨n, rfl⟩
  · exact wpAny_pure h1
  · show wpAny _ _ (loadIfAlive n.toNat >>= _) _ _ _
    refine wpAny_bind (wpAny_ifAlive ?_)
    cases hn : s.heap.get? n.toNat with
    | none => exact wpAny_pure h1
    | some o =>
      show wpAny _ _ (field (.ref z) 1 >>= _) _ _ _
      refine wpAny_bind (wpAny_field hz rfl (x := .bool b) rfl ?_)
      cases b with
      | true => exact wpAny_pure (h2 s.heap hz (Heap.SameBut.refl _ _))
      | false =>
        show wpAny _ _ (setField (.ref z) 1 (.bool true) >>= _) _ _ _
        exact wpAny_bind (wpAny_setField_rec hz (by simp) fun h₁ hz₁ hs₁ => wpAny_pure (h2 h₁ hz₁ hs₁))
theorem zipG_item {z TI TO i1 i2 l1 l2 : Addr} {k1 k2 : Nat} {xs ys : Array Value} {x y a b f0 f1 : Value} {Q : Value → Shared → Prop} (D : ZipApart z TI TO i1 i2 l1 l2)
    (hz : IsZG s.heap z TI TO f0 f1) (hf : ZF f0 f1) (hTI : IsPair s.heap TI (.ref i1) (.ref i2)) (hTO : IsPair s.heap TO a b)
    (h1 : s.heap.IsTupleIter i1 l1 k1) (h2 : s.heap.IsTupleIter i2 l2 k2) (hl1 : s.heap.IsTuple l1 xs) (hl2 : s.heap.IsTuple l2 ys) (hx : xs[k1]? = some x) (hy : ys[k2]? = some y)
    (hQ : ∀ h', (∃ g0 g1, IsZG h' z TI TO g0 g1 ∧ ZF g0 g1) → (∃ a b, IsPair h' TO a b) → h'.IsTupleIter i1 l1 (k1 + 1) → h'.IsTupleIter i2 l2 (k2 + 1) → IsPair h' s.heap.objs.size x y → h'.objs.size = s.heap.objs.size + 1 →
      (∀ c o, c ≠ z → c ≠ TO → c ≠ i1 → c ≠ i2 → s.heap.get? c = some o → h'.get? c = some o) → Q (.ref s.heap.objs.size) { s with heap := h' }) :
    wpAny (model prog w) A (Builtin.«zip.__next__» ⟨[.ref z], []⟩) (fun fin s' => ∃ v, fin = .done (.ret v) ∧ Q v s') E s := by
  show wpAny _ _ (field (.ref z) 2 >>= _) _ _ _
  refine wpAny_bind (wpAny_field hz rfl (x := .bool false) rfl ?_)
  show wpAny _ _ (field (.ref z) 3 >>= _) _ _ _
  refine wpAny_bind (wpAny_field hz rfl (x := .ref TI) rfl ?_)
  refine wpAny_bind (wpAny_seqItems hTI rfl ?_)
  show wpAny _ _ (Builtin.SmallTypes.ownedTupleIsFree (.ref z) >>= _) _ _ _
  refine wpAny_bind (zipFree hz hf ?_ fun h₀ hz₀ hs₀ => ?_)
  · simp only [if_true]
    refine wpAny_bind (wpAny_rule ?_)
    refine wpAny_bind (wpAny_field hz rfl (x := .ref TO) rfl ?_)
    refine wpAny_bind (wpAny_setField_rec hz (by simp) fun h₁ hz₁ hs₁ => ?_)
    replace hz₁ : IsZG h₁ z TI TO .ellipsis f1 := hz₁
    refine wpAny_bind ?_
    simp only [List.zipIdx_cons, List.zipIdx_nil, List.forIn_cons, List.forIn_nil]
    refine wpAny_bind (wpAny_bind (wpAny_onRaise ?_))
    show wpAny _ _ (Builtin.SmallTypes.nextOf (.ref i1) >>= _) _ _ _
    refine wpAny_bind (RZ.nextOf_tuple_item (h1.extBut hs₁.extBut D.i1z) (hl1.extBut hs₁.extBut D.l1z) hx fun h₂ h1₂ hs₂ => wpAny_pure ?_)
    have hTO₂ : IsPair h₂ TO a b := hs₂.extBut _ _ D.TOi1 (hs₁.extBut _ _ D.TOz hTO)
    refine wpAny_bind (wpAny_seqItems hTO₂ rfl ?_)
    refine wpAny_bind (wpAny_updateSeq_pair hTO₂ fun h₃ hTO₃ hs₃ => ?_)
    replace hTO₃ : IsPair h₃ TO x b := hTO₃
    refine wpAny_bind (wpAny_letGo (wpAny_pure ?_))
    refine wpAny_bind (wpAny_bind (wpAny_onRaise ?_))
    show wpAny _ _ (Builtin.SmallTypes.nextOf (.ref i2) >>= _) _ _ _
    refine wpAny_bind (RZ.nextOf_tuple_item (((h2.extBut hs₁.extBut D.i2z).extBut hs₂.extBut D.i12.symm).extBut hs₃.extBut D.TOi2.symm)
      (((hl2.extBut hs₁.extBut D.l2z).extBut hs₂.extBut D.l2i1).extBut hs₃.extBut D.l2TO) hy fun h₄ h2₄ hs₄ => wpAny_pure ?_)
    have hTO₄ : IsPair h₄ TO x b := hs₄.extBut _ _ D.TOi2 hTO₃
    refine wpAny_bind (wpAny_seqItems hTO₄ rfl ?_)
    refine wpAny_bind (wpAny_updateSeq_pair hTO₄ fun h₅ hTO₅ hs₅ => ?_)
    replace hTO₅ : IsPair h₅ TO x y := hTO₅
    refine wpAny_bind (wpAny_letGo (wpAny_pure (wpAny_pure ?_)))
    refine wpAny_bind (wpAny_seqItems hTO₅ rfl ?_)
    refine wpAny_bind (wpAny_newTuple ?_)
    have hsz : h₅.objs.size = s.heap.objs.size := by rw [hs₅.1, hs₄.1, hs₃.1, hs₂.1, hs₁.1]
    have hz₅ : IsZG h₅ z TI TO .ellipsis f1 := hs₅.extBut _ _ D.TOz.symm (hs₄.extBut _ _ D.i2z.symm (hs₃.extBut _ _ D.TOz.symm (hs₂.extBut _ _ D.i1z.symm hz₁)))
    have hk₅ : ∀ c o, c ≠ z → c ≠ TO → c ≠ i1 → c ≠ i2 → s.heap.get? c = some o → h₅.get? c = some o := fun c o c1 c2 c3 c4 e =>
      hs₅.extBut _ _ c2 (hs₄.extBut _ _ c4 (hs₃.extBut _ _ c2 (hs₂.extBut _ _ c3 (hs₁.extBut _ _ c1 e))))
    have h1₅ : h₅.IsTupleIter i1 l1 (k1 + 1) := ((h1₂.extBut hs₃.extBut D.TOi1.symm).extBut hs₄.extBut D.i12).extBut hs₅.extBut D.TOi1.symm
    have h2₅ : h₅.IsTupleIter i2 l2 (k2 + 1) := h2₄.extBut hs₅.extBut D.TOi2.symm
    have hzlt : z < h₅.objs.size := Heap.lt_size hz₅
    have hTOlt : TO < h₅.objs.size := Heap.lt_size hTO₅
    show wpAny _ _ (Builtin.SmallTypes.ownedTupleHandOut (.ref z) (.ref h₅.objs.size) >>= _) _ _ _
    refine wpAny_bind ?_
    unfold Builtin.SmallTypes.ownedTupleHandOut
    have hz₆ : IsZG (h₅.push { cls := .type "tuple", data := .seq #[x, y] }) z TI TO .ellipsis f1 := Heap.get?_push_of_some _ hz₅
    refine wpAny_bind (wpAny_setField_rec hz₆ (by simp) fun h₇ hz₇ hs₇ => ?_)
    replace hz₇ : IsZG h₇ z TI TO (rawInt h₅.objs.size) f1 := hz₇
    refine wpAny_setField_rec hz₇ (by simp) fun h₈ hz₈ hs₈ => ?_
    replace hz₈ : IsZG h₈ z TI TO (rawInt h₅.objs.size) (.bool false) := hz₈
    have up : ∀ c o, c ≠ z → h₅.get? c = some o → h₈.get? c = some o := fun c o c1 e => hs₈.extBut _ _ c1 (hs₇.extBut _ _ c1 (Heap.get?_push_of_some _ e))
    have hT₈ : IsPair h₈ h₅.objs.size x y := hs₈.extBut _ _ (Nat.ne_of_gt hzlt) (hs₇.extBut _ _ (Nat.ne_of_gt hzlt) (Heap.get?_push_size _ rfl))
    have hz8 : h₈.objs.size = h₅.objs.size + 1 := by rw [hs₈.1, hs₇.1, Heap.size_push]
    rw [hsz] at hT₈ hz8
    refine wpAny_pure ⟨_, rfl, ?_⟩
    show Q (.ref h₅.objs.size) _
    rw [hsz]
    exact hQ h₈ ⟨_, _, hz₈, .inr ⟨_, rfl⟩, _, rfl⟩ ⟨_, _, up _ _ D.TOz hTO₅⟩ (h1₅.at fun o e => up _ o D.i1z e) (h2₅.at fun o e => up _ o D.i2z e) hT₈ hz8 fun c o c1 c2 c3 c4 e => up c o c1 (hk₅ c o c1 c2 c3 c4 e)
  · simp only [if_neg Bool.false_ne_true]
    have h1' := h1.extBut hs₀.extBut D.i1z
    have h2' := h2.extBut hs₀.extBut D.i2z
    refine wpAny_bind ?_
    simp only [← Array.forIn_toList, List.forIn_cons, List.forIn_nil]
    refine wpAny_bind (wpAny_bind (wpAny_holding ?_))
    show wpAny _ _ (Builtin.SmallTypes.nextOf (.ref i1) >>= _) _ _ _
    refine wpAny_bind (RZ.nextOf_tuple_item h1' (hl1.extBut hs₀.extBut D.l1z) hx fun h₂ h1₂ hs₂ => wpAny_pure (wpAny_pure ?_))
    refine wpAny_bind (wpAny_bind (wpAny_holding ?_))
    show wpAny _ _ (Builtin.SmallTypes.nextOf (.ref i2) >>= _) _ _ _
    refine wpAny_bind (RZ.nextOf_tuple_item (h2'.extBut hs₂.extBut D.i12.symm) ((hl2.extBut hs₀.extBut D.l2z).extBut hs₂.extBut D.l2i1) hy fun h₄ h2₄ hs₄ => wpAny_pure (wpAny_pure (wpAny_pure ?_)))
    refine wpAny_bind (wpAny_newTuple ?_ (by show 2 ≤ sizeLine; decide))
    have hsz : h₄.objs.size = s.heap.objs.size := by rw [hs₄.1, hs₂.1, hs₀.1]
    have hz₄ : IsZG h₄ z TI TO f0 (.bool true) := hs₄.extBut _ _ D.i2z.symm (hs₂.extBut _ _ D.i1z.symm hz₀)
    have hTO₄ : IsPair h₄ TO a b := hs₄.extBut _ _ D.TOi2 (hs₂.extBut _ _ D.TOi1 (hs₀.extBut _ _ D.TOz hTO))
    have h1₄ : h₄.IsTupleIter i1 l1 (k1 + 1) := h1₂.extBut hs₄.extBut D.i12
    have hk₄ : ∀ c o, c ≠ z → c ≠ TO → c ≠ i1 → c ≠ i2 → s.heap.get? c = some o → h₄.get? c = some o := fun c o c1 c2 c3 c4 e =>
      hs₄.extBut _ _ c4 (hs₂.extBut _ _ c3 (hs₀.extBut _ _ c1 e))
    refine wpAny_pure ⟨_, rfl, ?_⟩
    show Q (.ref h₄.objs.size) { s with heap := h₄.push { cls := .type "tuple", data := .seq #[x, y] } }
    have hT : IsPair (h₄.push { cls := .type "tuple", data := .seq #[x, y] }) h₄.objs.size x y := Heap.get?_push_size _ rfl
    have hz8 : (h₄.push { cls := .type "tuple", data := .seq #[x, y] }).objs.size = h₄.objs.size + 1 := Heap.size_push ..
    rw [hsz] at hT hz8 ⊢
    exact hQ _ ⟨_, _, Heap.get?_push_of_some _ hz₄, hf.1, _, rfl⟩ ⟨_, _, Heap.get?_push_of_some _ hTO₄⟩ (h1₄.at fun o e => Heap.get?_push_of_some _ e) (h2₄.at fun o e => Heap.get?_push_of_some _ e) hT hz8
      fun c o c1 c2 c3 c4 e => Heap.get?_push_of_some _ (hk₄ c o c1 c2 c3 c4 e)
theorem zipG_end {z TI TO i1 i2 l1 l2 : Addr} {k1 k2 : Nat} {xs ys : Array Value} {a b f0 f1 : Value} {Q : Fin → Shared → Prop} (hh : A.handled = none) (D : ZipApart z TI TO i1 i2 l1 l2)
    (hz : IsZG s.heap z TI TO f0 f1) (hf : ZF f0 f1) (hTI : IsPair s.heap TI (.ref i1) (.ref i2)) (hTO : IsPair s.heap TO a b)
    (h1 : s.heap.IsTupleIter i1 l1 k1) (h2 : s.heap.IsTupleIter i2 l2 k2) (hl1 : s.heap.IsTuple l1 xs) (hl2 : s.heap.IsTuple l2 ys) (hend : xs[k1]? = none ∨ ys[k2]? = none)
    (hE : ∀ h' e, (∀ c o, c ≠ z → c ≠ TO → c ≠ i1 → c ≠ i2 → s.heap.get? c = some o → h'.get? c = some o) → (∃ o, h'.get? e = some o ∧ o.cls = .type "StopIteration") → E (.ref e) { s with heap := h' }) :
    wpAny (model prog w) A (Builtin.«zip.__next__» ⟨[.ref z], []⟩) Q E s := by
  show wpAny _ _ (field (.ref z) 2 >>= _) _ _ _
  refine wpAny_bind (wpAny_field hz rfl (x := .bool false) rfl ?_)
  show wpAny _ _ (field (.ref z) 3 >>= _) _ _ _
  refine wpAny_bind (wpAny_field hz rfl (x := .ref TI) rfl ?_)
  refine wpAny_bind (wpAny_seqItems hTI rfl ?_)
  show wpAny _ _ (Builtin.SmallTypes.ownedTupleIsFree (.ref z) >>= _) _ _ _
  refine wpAny_bind (zipFree hz hf ?_ fun h₀ hz₀ hs₀ => ?_)
  · simp only [if_true]
    refine wpAny_bind (wpAny_rule ?_)
    refine wpAny_bind (wpAny_field hz rfl (x := .ref TO) rfl ?_)
    refine wpAny_bind (wpAny_setField_rec hz (by simp) fun h₁ hz₁ hs₁ => ?_)
    replace hz₁ : IsZG h₁ z TI TO .ellipsis f1 := hz₁
    refine wpAny_bind ?_
    simp only [List.zipIdx_cons, List.zipIdx_nil, List.forIn_cons, List.forIn_nil]
    refine wpAny_bind (wpAny_bind (wpAny_onRaise ?_))
    show wpAny _ _ (Builtin.SmallTypes.nextOf (.ref i1) >>= _) _ _ _
    cases hx : xs[k1]? with
    | none =>
      refine wpAny_bind (RZ.nextOf_tuple_end hh (h1.extBut hs₁.extBut D.i1z) (hl1.extBut hs₁.extBut D.l1z) hx fun h₂ e hs₂ he => ?_)
      obtain ⟨oe, hoe, hce⟩ := he
      have hz₂ : IsZG h₂ z TI TO .ellipsis f1 := hs₂ _ _ D.i1z.symm hz₁
      have hez : e ≠ z := fun x => by subst x; rw [hz₂] at hoe; cases hoe; simp at hce
      refine wpAny_setField_rec hz₂ (by simp) fun h₃ _ hs₃ => hE h₃ e (fun c o c1 _ c3 _ x => hs₃.extBut _ _ c1 (hs₂ _ _ c3 (hs₁.extBut _ _ c1 x))) ⟨oe, hs₃.extBut _ _ hez hoe, hce⟩
    | some x =>
      have hy : ys[k2]? = none := by rcases hend with h | h; rw [hx] at h; cases h; exact h
      refine wpAny_bind (RZ.nextOf_tuple_item (h1.extBut hs₁.extBut D.i1z) (hl1.extBut hs₁.extBut D.l1z) hx fun h₂ h1₂ hs₂ => wpAny_pure ?_)
      have hTO₂ : IsPair h₂ TO a b := hs₂.extBut _ _ D.TOi1 (hs₁.extBut _ _ D.TOz hTO)
      refine wpAny_bind (wpAny_seqItems hTO₂ rfl ?_)
      refine wpAny_bind (wpAny_updateSeq_pair hTO₂ fun h₃ hTO₃ hs₃ => ?_)
      refine wpAny_bind (wpAny_letGo (wpAny_pure ?_))
      refine wpAny_bind (wpAny_bind (wpAny_onRaise ?_))
      show wpAny _ _ (Builtin.SmallTypes.nextOf (.ref i2) >>= _) _ _ _
      refine wpAny_bind (RZ.nextOf_tuple_end hh (((h2.extBut hs₁.extBut D.i2z).extBut hs₂.extBut D.i12.symm).extBut hs₃.extBut D.TOi2.symm)
        (((hl2.extBut hs₁.extBut D.l2z).extBut hs₂.extBut D.l2i1).extBut hs₃.extBut D.l2TO) hy fun h₄ e hs₄ he => ?_)
      obtain ⟨oe, hoe, hce⟩ := he
      have hz₄ : IsZG h₄ z TI TO .ellipsis f1 := hs₄ _ _ D.i2z.symm (hs₃.extBut _ _ D.TOz.symm (hs₂.extBut _ _ D.i1z.symm hz₁))
      have hez : e ≠ z := fun x => by subst x; rw [hz₄] at hoe; cases hoe; simp at hce
      refine wpAny_setField_rec hz₄ (by simp) fun h₅ _ hs₅ => hE h₅ e (fun c o c1 c2 c3 c4 x => hs₅.extBut _ _ c1 (hs₄ _ _ c4 (hs₃.extBut _ _ c2 (hs₂.extBut _ _ c3 (hs₁.extBut _ _ c1 x))))) ⟨oe, hs₅.extBut _ _ hez hoe, hce⟩
  · simp only [if_neg Bool.false_ne_true]
    have h1' := h1.extBut hs₀.extBut D.i1z
    have h2' := h2.extBut hs₀.extBut D.i2z
    refine wpAny_bind ?_
    simp only [← Array.forIn_toList, List.forIn_cons, List.forIn_nil]
    refine wpAny_bind (wpAny_bind (wpAny_holding ?_))
    show wpAny _ _ (Builtin.SmallTypes.nextOf (.ref i1) >>= _) _ _ _
    cases hx : xs[k1]? with
    | none =>
      refine wpAny_bind (RZ.nextOf_tuple_end hh h1' (hl1.extBut hs₀.extBut D.l1z) hx fun h₂ e hs₂ he => hE h₂ e (fun c o c1 c2 c3 c4 x => hs₂ _ _ c3 (hs₀.extBut _ _ c1 x)) he)
    | some x =>
      have hy : ys[k2]? = none := by rcases hend with h | h; rw [hx] at h; cases h; exact h
      refine wpAny_bind (RZ.nextOf_tuple_item h1' (hl1.extBut hs₀.extBut D.l1z) hx fun h₂ h1₂ hs₂ => wpAny_pure (wpAny_pure ?_))
      refine wpAny_bind (wpAny_bind (wpAny_holding ?_))
      show wpAny _ _ (Builtin.SmallTypes.nextOf (.ref i2) >>= _) _ _ _
      exact wpAny_bind (RZ.nextOf_tuple_end hh (h2'.extBut hs₂.extBut D.i12.symm) ((hl2.extBut hs₀.extBut D.l2z).extBut hs₂.extBut D.l2i1) hy fun h₄ e hs₄ he =>
        hE h₄ e (fun c o c1 c2 c3 c4 x => hs₄ _ _ c4 (hs₂.extBut _ _ c3 (hs₀.extBut _ _ c1 x))) he)
/-- next of an enumerate over a zip -/
theorem enumZ_item {e z TI TO i1 i2 l1 l2 : Addr} {i : Nat} {xs ys : Array Value} {x y a b f0 f1 old : Value} {Q : Option Value → Shared → Prop} (D : ZipApart z TI TO i1 i2 l1 l2) (n0 : e ≠ z) (n1 : e ≠ TO) (n2 : e ≠ i1) (n3 : e ≠ i2)
    (he : IsEnum s.heap e z i old) (hz : IsZG s.heap z TI TO f0 f1) (hf : ZF f0 f1) (hTI : IsPair s.heap TI (.ref i1) (.ref i2)) (hTO : IsPair s.heap TO a b)
    (h1 : s.heap.IsTupleIter i1 l1 i) (h2 : s.heap.IsTupleIter i2 l2 i) (hl1 : s.heap.IsTuple l1 xs) (hl2 : s.heap.IsTuple l2 ys) (hx : xs[i]? = some x) (hy : ys[i]? = some y)
    (hQ : ∀ h₁ h' tk, (∃ g0 g1, IsZG h₁ z TI TO g0 g1 ∧ ZF g0 g1) → (∃ a b, IsPair h₁ TO a b) → h₁.IsTupleIter i1 l1 (i + 1) → h₁.IsTupleIter i2 l2 (i + 1) → IsPair h₁ s.heap.objs.size x y → h₁.objs.size = s.heap.objs.size + 1 →
      (∀ c o, c ≠ z → c ≠ TO → c ≠ i1 → c ≠ i2 → s.heap.get? c = some o → h₁.get? c = some o) →
      IsEnumOut h' e z ((i : Int) + 1) (.ref s.heap.objs.size) (s.heap.objs.size + 1) → IsPair h' (s.heap.objs.size + 1) (.int i tk) (.ref s.heap.objs.size) → (∀ c o, c ≠ e → h₁.get? c = some o → h'.get? c = some o) →
      Q (some (.ref (s.heap.objs.size + 1))) { s with heap := h', toks := tk + 1 }) :
    wpAny (model prog w) A (pyNext (.ref e)) Q E s := by
  have hT : s.TypeIs (.ref e) "enumerate" := ⟨_, he, rfl⟩
  unfold pyNext
  refine wpAny_bind (wpAny_attempt (wpAny_callSpecial?_slot (name := Str.ofString "__next__") hT F.slot_enumerate_next
    (wpAny_call_entry F.slot_enumerate_next hT F.entry_enumerate_next ?_ (F.args_enumerate_next_1 _))))
  obtain ⟨hp, g, d, tk, os⟩ := s
  show wpAny _ _ (field (.ref e) 2 >>= _) _ _ _
  refine wpAny_bind (wpAny_field he rfl (x := .ref z) rfl ?_)
  have hTz : Shared.TypeIs ⟨hp, g, d, tk, os⟩ (.ref z) "zip" := ⟨_, hz, rfl⟩
  refine wpAny_bind ?_
  unfold Builtin.SmallTypes.nextOf
  refine wpAny_bind (wpAny_callSpecial?_slot (name := Str.ofString "__next__") hTz F.slot_zip_next
    (wpAny_call_entry F.slot_zip_next hTz F.entry_zip_next (zipG_item D hz hf hTI hTO h1 h2 hl1 hl2 hx hy fun h₁ z₁ TO₁ i₁ j₁ p₁ sz₁ k₁ => wpAny_pure ?_) (F.args_zip_next_1 _)))
  have he₁ : IsEnum h₁ e z i old := k₁ _ _ n0 n1 n2 n3 he
  show wpAny _ _ (field (.ref e) 3 >>= _) _ _ ⟨h₁, g, d, tk, os⟩
  refine wpAny_bind (wpAny_field he₁ rfl (x := rawInt i) rfl ?_)
  show wpAny _ _ (field (.ref e) 4 >>= _) _ _ ⟨h₁, g, d, tk, os⟩
  refine wpAny_bind (wpAny_field he₁ rfl (x := .none) rfl ?_)
  show wpAny _ _ (mkInt i >>= _) _ _ ⟨h₁, g, d, tk, os⟩
  refine wpAny_bind (wpAny_mkInt ?_)
  show wpAny _ _ (setField (.ref e) 3 (rawInt ((i : Int) + 1)) >>= _) _ _ ⟨h₁, g, d, tk + 1, os⟩
  refine wpAny_bind (wpAny_setField_rec he₁ (by simp) fun h₂ he₂ hs₂ => ?_)
  replace hs₂ : Heap.SameBut e h₁ h₂ := hs₂
  replace he₂ : IsEnum h₂ e z ((i : Int) + 1) old := he₂
  show wpAny _ _ (setField (.ref e) 4 .none >>= _) _ _ ⟨h₂, g, d, tk + 1, os⟩
  refine wpAny_bind (wpAny_setField_rec he₂ (by simp) fun h₃ he₃ hs₃ => ?_)
  replace hs₃ : Heap.SameBut e h₂ h₃ := hs₃
  replace he₃ : IsEnum h₃ e z ((i : Int) + 1) old := he₃
  show wpAny _ _ (newTuple [.int i tk, .ref hp.objs.size] >>= _) _ _ ⟨h₃, g, d, tk + 1, os⟩
  refine wpAny_bind (wpAny_newTuple ?_)
  have he₄ : IsEnum (h₃.push { cls := .type "tuple", data := .seq #[.int i tk, .ref hp.objs.size] }) e z ((i : Int) + 1) old := Heap.get?_push_of_some _ he₃
  generalize hh₄ : h₃.push { cls := .type "tuple", data := .seq #[.int i tk, .ref hp.objs.size] } = h₄ at he₄
  have hsz : h₃.objs.size = hp.objs.size + 1 := by rw [hs₃.1, hs₂.1]; exact sz₁
  have hel : e < hp.objs.size := Heap.lt_size he
  have ht₄ : h₄.get? (hp.objs.size + 1) = some { cls := .type "tuple", data := .seq #[.int i tk, .ref hp.objs.size] } := by rw [← hh₄, ← hsz]; exact Heap.get?_push_size _ rfl
  have hk₄ : ∀ b o, b ≠ e → h₁.get? b = some o → h₄.get? b = some o := fun b o hbe hb => by
    rw [← hh₄]; exact Heap.get?_push_of_some _ (hs₃.extBut b o hbe (hs₂.extBut b o hbe hb))
  show wpAny _ _ (Builtin.SmallTypes.ownedTupleIsFree (.ref e) >>= _) _ _ ⟨h₄, g, d, tk + 1, os⟩
  rw [hsz]
  refine wpAny_bind ?_
  unfold Builtin.SmallTypes.ownedTupleIsFree
  refine wpAny_bind (wpAny_field he₄ rfl (x := .none) rfl (wpAny_pure ?_))
  simp only [if_true]
  refine wpAny_bind (wpAny_rule ?_)
  refine wpAny_bind (wpAny_field he₄ rfl (x := old) rfl ?_)
  refine wpAny_bind (wpAny_setField_rec he₄ (by simp) fun h₅ he₅ hs₅ => ?_)
  replace hs₅ : Heap.SameBut e h₄ h₅ := hs₅
  replace he₅ : IsEnum h₅ e z ((i : Int) + 1) (.ref hp.objs.size) := he₅
  show wpAny _ _ (Builtin.SmallTypes.ownedTupleHandOut (.ref e) (.ref (hp.objs.size + 1)) >>= _) _ _ ⟨h₅, g, d, tk + 1, os⟩
  refine wpAny_bind ?_
  unfold Builtin.SmallTypes.ownedTupleHandOut
  refine wpAny_bind (wpAny_setField_rec he₅ (by simp) fun h₆ he₆ hs₆ => ?_)
  replace hs₆ : Heap.SameBut e h₅ h₆ := hs₆
  replace he₆ : IsEnumOut h₆ e z ((i : Int) + 1) (.ref hp.objs.size) (hp.objs.size + 1) := he₆
  refine wpAny_setField_rec he₆ (by simp) fun h₇ he₇ hs₇ => ?_
  replace hs₇ : Heap.SameBut e h₆ h₇ := hs₇
  replace he₇ : IsEnumOut h₇ e z ((i : Int) + 1) (.ref hp.objs.size) (hp.objs.size + 1) := he₇
  have n4 : hp.objs.size + 1 ≠ e := Nat.ne_of_gt (Nat.lt_succ_of_lt hel)
  refine wpAny_bind (wpAny_letGo (wpAny_pure ⟨_, rfl, wpAny_pure (hQ h₁ h₇ tk z₁ TO₁ i₁ j₁ p₁ sz₁ k₁ he₇ ?_ fun c o ce hc => ?_)⟩))
  · exact hs₇.extBut _ _ n4 (hs₆.extBut _ _ n4 (hs₅.extBut _ _ n4 ht₄))
  · exact hs₇.extBut c o ce (hs₆.extBut c o ce (hs₅.extBut c o ce (hk₄ c o ce hc)))
theorem enumZ_end {e z TI TO i1 i2 l1 l2 : Addr} {i : Nat} {xs ys : Array Value} {a b f0 f1 old : Value} {Q : Option Value → Shared → Prop} (hh : A.handled = none) (D : ZipApart z TI TO i1 i2 l1 l2)
    (he : IsEnum s.heap e z i old) (hz : IsZG s.heap z TI TO f0 f1) (hf : ZF f0 f1) (hTI : IsPair s.heap TI (.ref i1) (.ref i2)) (hTO : IsPair s.heap TO a b)
    (h1 : s.heap.IsTupleIter i1 l1 i) (h2 : s.heap.IsTupleIter i2 l2 i) (hl1 : s.heap.IsTuple l1 xs) (hl2 : s.heap.IsTuple l2 ys) (hend : xs[i]? = none ∨ ys[i]? = none)
    (hQ : ∀ h', (∀ c o, c ≠ z → c ≠ TO → c ≠ i1 → c ≠ i2 → s.heap.get? c = some o → h'.get? c = some o) → Q none { s with heap := h' }) :
    wpAny (model prog w) A (pyNext (.ref e)) Q E s := by
  have hT : s.TypeIs (.ref e) "enumerate" := ⟨_, he, rfl⟩
  unfold pyNext
  refine wpAny_bind (wpAny_attempt (wpAny_callSpecial?_slot (name := Str.ofString "__next__") hT F.slot_enumerate_next
    (wpAny_call_entry F.slot_enumerate_next hT F.entry_enumerate_next ?_ (F.args_enumerate_next_1 _))))
  show wpAny _ _ (field (.ref e) 2 >>= _) _ _ _
  refine wpAny_bind (wpAny_field he rfl (x := .ref z) rfl ?_)
  have hTz : s.TypeIs (.ref z) "zip" := ⟨_, hz, rfl⟩
  refine wpAny_bind ?_
  unfold Builtin.SmallTypes.nextOf
  refine wpAny_bind (wpAny_callSpecial?_slot (name := Str.ofString "__next__") hTz F.slot_zip_next
    (wpAny_call_entry F.slot_zip_next hTz F.entry_zip_next (zipG_end (by first | exact hh | rfl) D hz hf hTI hTO h1 h2 hl1 hl2 hend fun h' x k hx => ?_) (F.args_zip_next_1 _)))
  obtain ⟨o, ho, hc⟩ := hx
  refine wpAny_bind (wpAny_isInstance (T := "StopIteration") (b := true) ⟨o, ho, hc⟩ isSubtype_stop ?_)
  exact wpAny_pure (hQ _ k)
end
open PySem.W in
theorem enum_newZ {z : Addr} {G : Heap → Prop} (B : ∀ (P : Program) (w : World) (A : Around) (Ex : Value → Shared → Prop) (s : Shared) (Q : Value → Shared → Prop), G s.heap → Q (.ref z) s → wpAny (model P w) A (pyIter (.ref z)) Q Ex s) :
    Meets (Builtin.«enumerate.__new__» ⟨[.type "enumerate", .ref z], []⟩) (fun _ R s => G s.heap ∧
    R (.ok (.ret (.ref s.heap.objs.size))) { s with heap := s.heap.push { cls := .type "enumerate", data := .fields #[.none, .bool false, .ref z, rawInt 0, .none, .none] } }) :=
  .of_wp fun P w A R s h => by
    obtain ⟨hp, g, d, tk, os⟩ := s
    obtain ⟨h1, h⟩ := h
    have hsub := sub_enumerate
    have qq : ∀ {A' : Around} {Ex : Value → Shared → Prop} {Q : Value → Shared → Prop}, Q (.ref z) ⟨hp, g, d, tk, os⟩ → wpAny (model P w) A' (pyIter (.ref z)) Q Ex ⟨hp, g, d, tk, os⟩ := fun q => B P w _ _ ⟨hp, g, d, tk, os⟩ _ h1 q
    wp_walk using qq
    refine wpAny_stack_any fun st => wpAny_pure ?_
    split
    · rename_i c _ _ _ _ _
      cases (c == Value.type "enumerate") <;> (wp_walk using qq; exact ⟨_, rfl, h⟩)
    · wp_walk using qq
      exact ⟨_, rfl, h⟩
theorem call_enumZ {P : Program} {w : World} {A : Around} {Ex : Value → Shared → Prop} {s : Shared} {z TI TO : Addr} {f0 : Value} {Q : Value → Shared → Prop} (hz : IsZip s.heap z TI TO f0)
    (q : ∀ h', IsEnum h' s.heap.objs.size z 0 .none → (∀ b u, s.heap.get? b = some u → h'.get? b = some u) → Q (.ref s.heap.objs.size) { s with heap := h' }) :
    wpAny (model P w) A (call (.type "enumerate") [.ref z]) Q Ex s := by
  refine callType_new F.called_enumerate (by decide) (F.typeCall_enumerate_1 _) (F.newCall_enumerate_1 _) (fun obj => F.args_object_init_2 obj _) F.entry_enumerate_new
    (enum_newZ (z := z) (G := fun h => IsZip h z TI TO f0) fun P w A Ex s Q h k => wpAny_pyIter_zip h k) ⟨hz, ?_⟩
  have e : IsEnum (s.heap.push { cls := .type "enumerate", data := .fields #[.none, .bool false, .ref z, rawInt 0, .none, .none] }) s.heap.objs.size z 0 .none := Heap.get?_push_size _ rfl
  exact ⟨⟨_, e, rfl⟩, q _ e fun b u x => Heap.get?_push_of_some _ x⟩
def IteZ (K : Frag) (a b : Addr) : It :=
  ⟨fun i H => ∃ (xs ys : List V) (x y : V), SqT K H a xs ∧ SqT K H b ys ∧ xs[i]? = some x ∧ ys[i]? = some y,
    fun i H v H' => ∃ T1 T2 x y, v = .ref T2 ∧ H T1 = none ∧ upd H T1 (.tup [x, y]) T2 = none ∧ H' = upd (upd H T1 (.tup [x, y])) T2 (.tup [.int (i : Nat), .ref T1]) ∧ (∀ xs, SqT K H a xs → xs[i]? = some x) ∧ ∀ ys, SqT K H b ys → ys[i]? = some y,
    fun i H => ∃ xs ys : List V, SqT K H a xs ∧ SqT K H b ys ∧ (xs.length ≤ i ∨ ys.length ≤ i)⟩
theorem turn_enumZ {P : Program} {w : World} {K : Frag} {elts : List Expr} {kk : Nat} {tpos : Pos} {a b z TI TO i1 i2 e : Addr} (D : ZipApart z TI TO i1 i2 a b) (n0 : e ≠ z) (n1 : e ≠ TO) (n2 : e ≠ i1) (n3 : e ≠ i2) (n4 : e ≠ a) (n5 : e ≠ b) (n6 : e ≠ TI) :
    Turn P w K (.Tuple elts kk tpos) (IteZ K a b) [e, z, TI, TO, i1, i2] e (fun i h => (∃ old, IsEnum h e z ((i : Nat) : Int) old) ∧ (∃ f0 f1, IsZG h z TI TO f0 f1 ∧ ZF f0 f1) ∧ IsPair h TI (.ref i1) (.ref i2) ∧ (∃ x y, IsPair h TO x y) ∧ h.IsTupleIter i1 a i ∧ h.IsTupleIter i2 b i) where
  mem := by simp
  obj := fun i h st c hc => by
    obtain ⟨⟨_, he⟩, ⟨_, _, hz, _⟩, hTI, ⟨x, y, hTO⟩, ⟨o1, e1, _, d1⟩, ⟨o2, e2, _, d2⟩⟩ := st
    have e' : c = e ∨ c = z ∨ c = TI ∨ c = TO ∨ c = i1 ∨ c = i2 := by simpa using hc
    rcases e' with q | q | q | q | q | q
    · rw [q]; exact ⟨_, he, fun v q => nomatch q⟩
    · rw [q]; exact ⟨_, hz, fun v q => nomatch q⟩
    · rw [q]; exact ⟨_, hTI, fun v q => nomatch q⟩
    · rw [q]; exact ⟨_, hTO, fun v q => nomatch q⟩
    · rw [q]; exact ⟨o1, e1, fun v q => by rw [d1] at q; cases q⟩
    · rw [q]; exact ⟨o2, e2, fun v q => by rw [d2] at q; cases q⟩
  keep := fun i h h' st k => by
    obtain ⟨⟨old, he⟩, ⟨f0, f1, hz, hf⟩, hTI, ⟨x, y, hTO⟩, h1, h2⟩ := st
    exact ⟨⟨old, k e (by simp) _ he⟩, ⟨f0, f1, k z (by simp) _ hz, hf⟩, k TI (by simp) _ hTI, ⟨x, y, k TO (by simp) _ hTO⟩, h1.at fun o q => k i1 (by simp) o q, h2.at fun o q => k i2 (by simp) o q⟩
  item := by
    intro X hP hw hK hc i pins s σ H E I hf st hg
    subst hP hw hK
    obtain ⟨⟨old, he⟩, ⟨f0, f1, hz, hzf⟩, hTI, ⟨x0, y0, hTO⟩, h1, h2⟩ := st
    obtain ⟨xs, ys, x, y, hqx, hqy, hx, hy⟩ := hg
    obtain ⟨its, rv, p, _⟩ := I.tuple hqx
    obtain ⟨its2, rv2, p2, _⟩ := I.tuple hqy
    obtain ⟨u, hu, ru⟩ := rv.get hx
    obtain ⟨u2, hu2, ru2⟩ := rv2.get hy
    have hel : e < s.heap.objs.size := Heap.lt_size he
    refine enumZ_item D n0 n1 n2 n3 he hz hzf hTI hTO h1 h2 (show s.heap.IsTuple a its.toArray from p) (show s.heap.IsTuple b its2.toArray from p2) (x := u) (y := u2) (by simpa using hu) (by simpa using hu2)
      fun h₁ h' tk z₁ TO₁ i₁ j₁ p₁ sz₁ k₁ eo pp k₂ => ?_
    refine ⟨_, rfl, wpAny_letOwnedTupleGo_enum (s := { s with heap := h', toks := tk + 1 }) eo fun hq he2 sb => ?_⟩
    obtain ⟨g0, g1, z₁, zf₁⟩ := z₁
    obtain ⟨a', b', TO₁⟩ := TO₁
    have k₃ : ∀ c o, c ≠ e → h₁.get? c = some o → hq.get? c = some o := fun c o ce q => (sb.2 c ce).trans (k₂ c o ce q)
    have e1 : s.heap.objs.size ≠ e := Nat.ne_of_gt hel
    have e2 : s.heap.objs.size + 1 ≠ e := Nat.ne_of_gt (Nat.lt_succ_of_lt hel)
    have new1 : ObjOk X.prog X.w (upd H s.heap.objs.size (.tup [x, y])) h₁ s.heap.objs.size (.tup [x, y]) :=
      ⟨(by decide : 2 ≤ sizeLine), [u, u2], .cons ru (.cons ru2 .nil), ⟨_, p₁, rfl, _, rfl⟩⟩
    have I1 : L2.Inv X pins σ (upd H s.heap.objs.size (.tup [x, y])) { s with heap := h₁, toks := tk } :=
      I.turnedNew (ch := [e, z, TI, TO, i1, i2]) (fun c o hb q => k₁ c o (fun q' => hb (by simp [q'])) (fun q' => hb (by simp [q'])) (fun q' => hb (by simp [q'])) (fun q' => hb (by simp [q'])) q) hf (Nat.le_refl _) new1
    have lt1 : ∀ c ∈ [e, z, TI, TO, i1, i2], c < s.heap.objs.size := fun c hcm => by
      have e' : c = e ∨ c = z ∨ c = TI ∨ c = TO ∨ c = i1 ∨ c = i2 := by simpa using hcm
      rcases e' with q | q | q | q | q | q
      · rw [q]; exact hel
      · rw [q]; exact Heap.lt_size hz
      · rw [q]; exact Heap.lt_size hTI
      · rw [q]; exact Heap.lt_size hTO
      · rw [q]; obtain ⟨_, e1, _⟩ := h1; exact Heap.lt_size e1
      · rw [q]; obtain ⟨_, e2, _⟩ := h2; exact Heap.lt_size e2
    have hf1 : ∀ c ∈ [e], FpOk X pins (upd H s.heap.objs.size (.tup [x, y])) c := fun c hcm => by
      have hc' : c = e := by simpa using hcm
      obtain ⟨q0, q⟩ := hf c (by simp [hc'])
      exact ⟨by rw [upd_ne (Nat.ne_of_lt (lt1 c (by simp [hc'])))]; exact q0, q⟩
    have pp2 : hq.get? (s.heap.objs.size + 1) = some { cls := .type "tuple", data := .seq #[.int i tk, .ref s.heap.objs.size] } := (sb.2 _ e2).trans pp
    have new2 : ObjOk X.prog X.w (upd (upd H s.heap.objs.size (.tup [x, y])) (s.heap.objs.size + 1) (.tup [.int (i : Nat), .ref s.heap.objs.size])) hq (s.heap.objs.size + 1) (.tup [.int (i : Nat), .ref s.heap.objs.size]) :=
      ⟨(by decide : 2 ≤ sizeLine), [.int i tk, .ref s.heap.objs.size], .cons ⟨_, rfl⟩ (.cons rfl .nil), ⟨_, pp2, rfl, _, rfl⟩⟩
    have I2 : L2.Inv X pins σ (upd (upd H s.heap.objs.size (.tup [x, y])) (s.heap.objs.size + 1) (.tup [.int (i : Nat), .ref s.heap.objs.size])) { s with heap := hq, toks := tk + 1 } :=
      I1.turnedNew (ch := [e]) (fun c o hb q => k₃ c o (fun q' => hb (by simp [q'])) q) hf1 (by show h₁.objs.size ≤ _; rw [sz₁]; exact Nat.le_refl _) new2
    refine ⟨.ref (s.heap.objs.size + 1), _, I2, rfl, ⟨s.heap.objs.size, s.heap.objs.size + 1, x, y, rfl, I.hok.fresh (Nat.le_refl _), ?_, rfl, fun l hl => by rw [I.tuple_inj hl hqx]; exact hx, fun l hl => by rw [I.tuple_inj hl hqy]; exact hy⟩,
      ⟨⟨.ref s.heap.objs.size, ?_⟩, ⟨g0, g1, k₃ _ _ n0.symm z₁, zf₁⟩, ?_, ⟨a', b', k₃ _ _ n1.symm TO₁⟩, i₁.at fun o q => k₃ _ o n2.symm q, j₁.at fun o q => k₃ _ o n3.symm q⟩, fun c hcm => ?_⟩
    · rw [upd_ne (Nat.ne_of_gt (Nat.lt_succ_self _))]; exact I.hok.fresh (Nat.le_succ _)
    · rw [show ((i + 1 : Nat) : Int) = (i : Int) + 1 by omega]; exact he2
    · exact k₃ _ _ n6.symm (k₁ _ _ D.TIz D.TITO D.TIi1 D.TIi2 hTI)
    · have hlt := lt1 c hcm
      rw [upd_ne (Nat.ne_of_lt (Nat.lt_succ_of_lt hlt)), upd_ne (Nat.ne_of_lt hlt)]
      exact (hf c hcm).1
  done := by
    intro X hP hw hK hc i pins s σ H E I hf st hg
    subst hP hw hK
    obtain ⟨⟨old, he⟩, ⟨f0, f1, hz, hzf⟩, hTI, ⟨x0, y0, hTO⟩, h1, h2⟩ := st
    obtain ⟨xs, ys, hqx, hqy, hend⟩ := hg
    obtain ⟨its, rv, p, _⟩ := I.tuple hqx
    obtain ⟨its2, rv2, p2, _⟩ := I.tuple hqy
    have l1 := rv.length
    have l2 := rv2.length
    have hend' : its.toArray[i]? = none ∨ its2.toArray[i]? = none := by
      rcases hend with q | q
      · exact .inl (by simp; omega)
      · exact .inr (by simp; omega)
    exact enumZ_end (I.ok.hd hc) D he hz hzf hTI hTO h1 h2 (show s.heap.IsTuple a its.toArray from p) (show s.heap.IsTuple b its2.toArray from p2) hend' fun h' hk => ⟨rfl, I.turnedL (t' := s.toks) (ch := [e, z, TI, TO, i1, i2]) (fun c o hb q =>
      hk c o (fun q' => hb (by simp [q'])) (fun q' => hb (by simp [q'])) (fun q' => hb (by simp [q'])) (fun q' => hb (by simp [q'])) q) hf⟩
  self := fun A i s Q E st h => let ⟨⟨_, he⟩, _⟩ := st; wpAny_pyIter_enum he h
theorem walk_enumZ {K : Frag} {a b : Addr} {xs ys : List V} {n : Nat} (hn : n = min xs.length ys.length) : Walk (IteZ K a b) n (fun H => SqT K H a xs ∧ SqT K H b ys)
    (fun i H v H' => ∃ T1 T2 x y, v = .ref T2 ∧ H T1 = none ∧ upd H T1 (.tup [x, y]) T2 = none ∧ H' = upd (upd H T1 (.tup [x, y])) T2 (.tup [.int (i : Nat), .ref T1]) ∧ xs[i]? = some x ∧ ys[i]? = some y) := by
  subst hn
  refine ⟨fun i _ hi q => ⟨xs, ys, xs[i]'(by omega), ys[i]'(by omega), q.1, q.2, List.getElem?_eq_getElem _, List.getElem?_eq_getElem _⟩, fun _ q => ⟨xs, ys, q.1, q.2, by omega⟩, fun i H v H' _ q y => ?_⟩
  obtain ⟨T1, T2, x, z, h1, h2, h3, h4, h5, h6⟩ := y
  exact ⟨T1, T2, x, z, h1, h2, h3, h4, h5 xs q.1, h6 ys q.2⟩
def iEnumZ (K : Frag) (ta : TA) : TI := fun σ H R => ta σ H fun vs H1 => ∃ a b xs ys, vs = [.ref a, .ref b] ∧ SqT K H1 a xs ∧ SqT K H1 b ys ∧ R (IteZ K a b) H1
theorem pi_enumZ {X : Cx} {e e2 : Expr} {ta : TA} {p p2 p3 pos tpos : Pos} {elts : List Expr} {kk : Nat} (hg : Gl X "enumerate") (hm : X.mg "enumerate" = none) (hg2 : Gl X "zip") (hm2 : X.mg "zip" = none) (ha : PA X [e, e2] ta)
    (hs : starEach [e, e2] X.env = (false, eval e X.env) :: starEach [e2] X.env) (hpl : (backTo p3 (starEach [e2] X.env)).any (·.1) = false) :
    PI X (.Tuple elts kk tpos) (.Call (.Name "enumerate" p) [.Call (.Name "zip" p2) [e, e2] [] p3] [] pos) (iEnumZ X.K ta) := by
  refine ⟨fun pins s σ H R I h => Call_ (ld_blt I hg hm PyProof.Rows.boot_enumerate (PyProof.Rows.callWith_type1 ?_ (by rfl) (by rfl)))⟩
  show wpAny _ _ (spliced ((false, eval (.Call (.Name "zip" p2) [e, e2] [] p3) X.env) :: [])) _ _ s
  refine Calls.spliced_cons ?_
  refine Call_ (ld_blt I hg2 hm2 PyProof.Rows.boot_zip (PyProof.Rows.callWith_type1 (thn (ha.run p3 pins s σ H _ I h) fun us s1 ⟨vs, H1, I1, r1, q1⟩ => ?_) hs hpl))
  obtain ⟨a, b, xs, ys, ex, hqx, hqy, q⟩ := q1
  subst ex
  cases r1 with
  | cons r rr =>
    cases rr with
    | cons r' rr =>
      cases rr
      cases r
      cases r'
      obtain ⟨its, rv, p1, _⟩ := I1.tuple hqx
      obtain ⟨its2, rv2, p2, _⟩ := I1.tuple hqy
      obtain ⟨o1, ho1, _⟩ := id p1
      obtain ⟨o2, ho2, _⟩ := id p2
      have la : a < s1.heap.objs.size := Heap.lt_size ho1
      have lb : b < s1.heap.objs.size := Heap.lt_size ho2
      refine RZ.call_zipT (show s1.heap.IsTuple a its.toArray from p1) (show s1.heap.IsTuple b its2.toArray from p2) fun h' hz hTI hTO h1 h2 hsz hk => ?_
      refine Calls.spliced_nil (call_enumZ (s := { s1 with heap := h' }) hz fun h'' he hk2 => wpAny_pyIter_enum he ?_)
      have he : IsEnum h'' h'.objs.size (s1.heap.objs.size + 4) 0 .none := he
      show PIE X pins σ _ R (.ref h'.objs.size) { s1 with heap := h'' }
      rw [hsz] at he ⊢
      have I2 : L2.Inv X pins σ H1 { s1 with heap := h'' } := I1.kept (t' := s1.toks) fun c o x => hk2 c o (hk c o x)
      have fresh6 : ∀ c, c ∈ [s1.heap.objs.size + 5, s1.heap.objs.size + 4, s1.heap.objs.size + 2, s1.heap.objs.size + 3, s1.heap.objs.size, s1.heap.objs.size + 1] → FpOk X pins H1 c := fun c hcm => by
        have e' : c = s1.heap.objs.size + 5 ∨ c = s1.heap.objs.size + 4 ∨ c = s1.heap.objs.size + 2 ∨ c = s1.heap.objs.size + 3 ∨ c = s1.heap.objs.size ∨ c = s1.heap.objs.size + 1 := by simpa using hcm
        have hle : s1.heap.objs.size ≤ c := by
          rcases e' with z | z | z | z | z | z
          · rw [z]; exact Nat.le_add_right _ _
          · rw [z]; exact Nat.le_add_right _ _
          · rw [z]; exact Nat.le_add_right _ _
          · rw [z]; exact Nat.le_add_right _ _
          · rw [z]; exact Nat.le_refl _
          · rw [z]; exact Nat.le_add_right _ _
        exact I1.fpOk hle (I1.hok.fresh hle)
      have hzG : IsZG h'' (s1.heap.objs.size + 4) (s1.heap.objs.size + 2) (s1.heap.objs.size + 3) .none (.bool false) := hk2 _ _ hz
      refine ⟨s1.heap.objs.size + 5, [s1.heap.objs.size + 5, s1.heap.objs.size + 4, s1.heap.objs.size + 2, s1.heap.objs.size + 3, s1.heap.objs.size, s1.heap.objs.size + 1], _, _, H1, rfl, I2,
        turn_enumZ (PySem.W.ktu_apart s1.heap.objs.size a b la lb) (Nat.ne_of_gt (Nat.lt_succ_self _)) (Nat.ne_of_gt (Nat.lt_add_of_pos_right (by decide : 0 < 2))) (Nat.ne_of_gt (Nat.lt_add_of_pos_right (by decide : 0 < 5))) (Nat.ne_of_gt (Nat.lt_add_of_pos_right (by decide : 0 < 4))) ?_ ?_ ?_,
        ⟨⟨.none, he⟩, ⟨_, _, hzG, .inl rfl, _, rfl⟩, hk2 _ _ hTI, ⟨_, _, hk2 _ _ hTO⟩, h1.at fun o x => hk2 _ o x, h2.at fun o x => hk2 _ o x⟩, fresh6, q⟩
      · exact Nat.ne_of_gt (Nat.lt_of_lt_of_le la (Nat.le_add_right _ _))
      · exact Nat.ne_of_gt (Nat.lt_of_lt_of_le lb (Nat.le_add_right _ _))
      · exact Nat.ne_of_gt (Nat.lt_add_of_pos_right (by decide : 0 < 3))
section
variable {X : Cx} {O : Orc} {k : Ck} {sc so : Scope} {lo : Nat} {W : WX} {a b c tg : Expr} {ea eb ec : E} {pos : Pos}
theorem wk_enumZ {K : Frag} {H1 : Hp} {M1 : Pr} {a b : Addr} {xs ys : List V} {ds es : List PyData} (s1 : SqT K H1 a xs) (s2 : SqT K H1 b ys) (r : RpA K H1 M1 xs ds) (q : RpA K H1 M1 ys es) : Wk K (IteZ K a b) H1 M1 (enumL 0 (zipL ds es)) [] := by
  refine ⟨fun H => SqT K H a xs ∧ SqT K H b ys, fun i H v H' => ∃ T1 T2 x y, v = .ref T2 ∧ H T1 = none ∧ upd H T1 (.tup [x, y]) T2 = none ∧ H' = upd (upd H T1 (.tup [x, y])) T2 (.tup [.int (i : Nat), .ref T1]) ∧ xs[i]? = some x ∧ ys[i]? = some y,
    by rw [enum_len, zip_len, ← r.len, ← q.len]; exact walk_enumZ rfl, ⟨s1, s2⟩, fun H H' q kp => ⟨kp_tup q.1 kp, kp_tup q.2 kp⟩, fun i H x H' M hi gH al hr ⟨T1, T2, u, v, e1, e2, e3, e4, e5, e6⟩ => ?_⟩
  subst e1 e4
  obtain ⟨d, h1, h2⟩ := r.at e5
  obtain ⟨e, h3, h4⟩ := q.at e6
  obtain ⟨sm, rp⟩ := rp_newT (M := M) al e2 (.cons (hr _ _ h2) (.cons (hr _ _ h4) .nil))
  have al2 : ∀ a, M a → (upd H T1 (.tup [u, v])) a ≠ none := fun a ha => by
    cases z : H a with
    | none => exact absurd z (al a ha)
    | some o => rw [sm a o z]; simp
  obtain ⟨sm2, rp2⟩ := rp_newT (M := M) (xs := [.int (i : Nat), .ref T1]) al2 e3 (.cons (.int _) (.cons rp .nil))
  refine ⟨sm.trans sm2, _, enum_get _ 0 i _ (zip_get ds es i d e h1 h3), ?_⟩
  rw [Nat.zero_add]; exact rp2
theorem s_enumZ {eas : Es} {y z : Str} {p p2 p3 tpos : Pos} {elts : List Expr} {kk : Nat} (ok : XOk X O k sc so) (h1 : y = ("enumerate" : Str)) (h2 : glB sc y = true) (h5 : z = ("zip" : Str)) (h6 : glB sc z = true) (h3 : plainX a = true) (h4 : plainX b = true) (ha : PA X [a, b] (tEs (fm X O lo W) eas)) :
    PI X (.Tuple elts kk tpos) (.Call (.Name y p) [.Call (.Name z p2) [a, b] [] p3] [] pos) (tI (fm X O lo W) (.enumZ eas)) := by
  obtain ⟨gg1, gg2⟩ := ok.gl h2
  obtain ⟨gg3, gg4⟩ := ok.gl h6
  subst h1 h5
  refine PI_imp (PI_len (pi_enumZ gg1 (ok.bl "enumerate" (by decide)) gg3 (ok.bl "zip" (by decide)) ha (by rw [star_of h3]) (by rw [star_of h4]; rfl))) ?_
  rintro σ H Q ⟨env, ρ, S, Y, fs, po⟩
  simp only [evI] at po
  refine ⟨env, ρ, S, Y, fs, Po.bind po fun ws S1 vs H1 _ st1 cf1 rw1 h1 => ?_⟩
  obtain ⟨xs, e1, h1⟩ := Po.orNo h1
  obtain ⟨q, e2, h1⟩ := Po.orNo h1
  have h2 : ∃ ds es, xs = [.tuple ds, .tuple es] ∧ q = (ds, es) := by
    unfold tup2 at e2
    split at e2
    · cases e2; exact ⟨_, _, rfl, rfl⟩
    · cases e2
  obtain ⟨ds, es, rfl, rfl⟩ := h2
  obtain ⟨v1, v2, rfl, w1, w2⟩ := (Vws.of cf1 rw1 e1).two
  obtain ⟨b1, vs1, rfl, s1, p1⟩ := w1.tuple
  obtain ⟨b2, vs2, rfl, s2, p2⟩ := w2.tuple
  refine ⟨b1, b2, vs1, vs2, rfl, s1, s2, fun hl => h1 (IteZ X.K b1 b2) H1 Ste.refl cf1 ⟨[], wk_enumZ s1 s2 p1 p2, ?_, fun c hc => absurd hc List.not_mem_nil⟩⟩
  have := hl b1 vs1 (.inr s1)
  show (enumL 0 (zipL ds es)).length ≤ sizeLine
  rw [enum_len, zip_len, ← p1.len]
  omega
end
end Rf
namespace Rf
open PySem PySem.Spec PyProof.Rows L2

section
variable {K : Frag} {H H' : Hp} {ρ Y : List Addr} {S : Sto} {D : Addr}
/-- an address more, or less, that nothing else may hold -/
theorem mu_cons {a : Addr} (h : mu ρ S Y a) : mu ρ S (D :: Y) a := h.elim (fun z => .inl (List.mem_cons_of_mem _ z)) .inr
theorem rp_unres {v : V} {d : PyData} (h : Rp K H (mu ρ S (D :: Y)) v d) : Rp K H (mu ρ S Y) v d :=
  Rp.mono (fun _ _ l => l.elim (fun l => .inl ⟨l.1, fun z => l.2 (mu_cons z)⟩) .inr) (fun _ _ q => q) d v h
theorem rpa_unres {v : List V} {d : List PyData} (h : RpA K H (mu ρ S (D :: Y)) v d) : RpA K H (mu ρ S Y) v d :=
  RpA.mono (fun _ _ l => l.elim (fun l => .inl ⟨l.1, fun z => l.2 (mu_cons z)⟩) .inr) (fun _ _ q => q) d v h
theorem Cf.unres (c : Cf ω K H ρ S (D :: Y)) : Cf ω K H ρ S Y :=
  ⟨c.len, c.nd, fun a h => c.alive a (List.mem_cons_of_mem _ h), fun a h z => c.sep a h (List.mem_cons_of_mem _ z), fun n a o h1 h2 => (c.ent n a o h1 h2).mono (fun _ _ l => l.elim (fun l => .inl ⟨l.1, fun z => l.2 (mu_cons z)⟩) .inr) (fun _ _ q => q) fun _ e => e⟩
theorem lr_res (hD : H D = none) (sm : Same H H') : ∀ a xs, LR K H (mu ρ S Y) a xs → LR K H' (mu ρ S (D :: Y)) a xs := fun a xs l => by
  rcases l with ⟨l1, l2⟩ | l
  · refine .inl ⟨rd_same sm l1, fun z => ?_⟩
    rcases z with z | z
    · rcases List.mem_cons.mp z with e | z
      · subst e
        rcases l1 with l1 | ⟨o, l1⟩
        · rw [hD] at l1; cases l1
        · rw [hD] at l1; cases l1
      · exact l2 (.inl z)
    · exact l2 (.inr z)
  · exact .inr l
theorem rp_res (hD : H D = none) (sm : Same H H') {v : V} {d : PyData} (h : Rp K H (mu ρ S Y) v d) : Rp K H' (mu ρ S (D :: Y)) v d := Rp.mono (lr_res hD sm) (sqT_same sm) d v h
theorem rpa_res (hD : H D = none) (sm : Same H H') {v : List V} {d : List PyData} (h : RpA K H (mu ρ S Y) v d) : RpA K H' (mu ρ S (D :: Y)) v d := RpA.mono (lr_res hD sm) (sqT_same sm) d v h
theorem Cf.res (c : Cf ω K H ρ S Y) (hD : H D = none) (sm : Same H H') (hD' : H' D ≠ none) : Cf ω K H' ρ S (D :: Y) := by
  refine ⟨c.len, c.nd, fun a h => ?_, fun a h z => ?_, fun n a o h1 h2 => ?_⟩
  · rcases List.mem_cons.mp h with e | h
    · subst e; exact hD'
    · cases e : H a with
      | none => exact absurd e (c.alive a h)
      | some u => rw [sm a u e]; simp
  · rcases List.mem_cons.mp z with e | z
    · subst e
      obtain ⟨n, hn, e⟩ := List.getElem_of_mem h
      have hs : n < S.length := by rw [← c.len]; exact hn
      exact (c.ent n a S[n] (by rw [List.getElem?_eq_getElem hn, e]) (List.getElem?_eq_getElem hs)).alive hD
    · exact c.sep a h z
  · exact (c.ent n a o h1 h2).mono (lr_res hD sm) (sqT_same sm) fun u e => sm _ _ e
theorem rw_res (hD : H D = none) (sm : Same H H') {v : V} {w : Wd} (h : Rw K H ρ (mu ρ S Y) v w) : Rw K H' ρ (mu ρ S (D :: Y)) v w := by
  cases w with
  | d x => exact rp_res hD sm h
  | r n => exact h
/-- a reserved list is changed: what is data stays -/
theorem lr_upd {M : Pr} {xs : List V} (hM : M D) (hD : H D = some (.lst xs)) {o : HO} : ∀ a ys, LR K H M a ys → LR K (upd H D o) M a ys := fun a ys l => by
  rcases l with ⟨l1, l2⟩ | l
  · have ne : a ≠ D := fun e => l2 (e ▸ hM)
    refine .inl ⟨?_, l2⟩
    rcases l1 with l1 | ⟨u, l1⟩
    · exact .inl (by rw [upd_ne ne]; exact l1)
    · exact .inr ⟨u, by rw [upd_ne ne]; exact l1⟩
  · exact .inr l
theorem sqT_upd {xs : List V} (hD : H D = some (.lst xs)) {o : HO} : ∀ a ys, SqT K H a ys → SqT K (upd H D o) a ys := fun a ys l => by
  rcases l with (l | ⟨u, l⟩) | l
  · exact .inl (.inl (by rw [upd_ne (ne_of l hD (fun z => nomatch z))]; exact l))
  · exact .inl (.inr ⟨u, by rw [upd_ne (ne_of l hD (fun z => nomatch z))]; exact l⟩)
  · exact .inr l
theorem Cf.updY {xs : List V} {o : HO} (c : Cf ω K H ρ S (D :: Y)) (hD : H D = some (.lst xs)) : Cf ω K (upd H D o) ρ S (D :: Y) := by
  refine ⟨c.len, c.nd, fun a h => ?_, c.sep, fun n a u h1 h2 => ?_⟩
  · by_cases e : a = D
    · subst e; rw [upd_same]; simp
    · rw [upd_ne e]; exact c.alive a h
  · have ne : a ≠ D := fun z => c.sep a (List.mem_of_getElem? h1) (by simp [z])
    exact (c.ent n a u h1 h2).mono (lr_upd (.inl (by simp)) hD) (sqT_upd hD) fun _ e => by rw [upd_ne ne]; exact e
end
section
variable {F F0 : Fm} {ρ Y Y1 : List Addr} {σ σ1 : L2.St} {α β γ δ : Type} {R : Hp → Sto → β → α → Prop} {R2 : Hp → Sto → δ → γ → Prop} {Hb H H1 : Hp} {Sb S S1 : Sto} {Q : δ → Hp → Prop} {Q' : β → Hp → Prop}
theorem Po.nox {r : Res α} {f : α → Sto → Res γ} (h : Po F ρ Y σ R2 Hb Sb (r.nox.bind f) Q)
    (k : ∀ a S1 b H1, r = .ok a S1 → Ste F0.lo H S H1 S1 → Cf F0.ω F0.K H1 ρ S1 Y1 → R H1 S1 b a → Po F ρ Y σ R2 Hb Sb (f a S1) Q → Q' b H1) : Po F0 ρ Y1 σ1 R H S r Q' := by
  cases r with
  | no => exact h
  | ex c S' => exact h.elim
  | ok a S' => exact fun b H' x y z => k a S' b H' rfl x y z h
end
def W0 : WX := fun _ _ _ _ => False
def tTc (F : Fm) (c : Option E) : TT := fun σ H Q => ∃ env ρ S Y, Fs F σ H env ρ S Y ∧ Po F ρ Y σ REq H S (evc F.O F.lo c env S) Q
section
variable {X : Cx} {O : Orc} {k : Ck} {sc so : Scope} {lo : Nat} {W : WX} {a b c tg : Expr} {ea eb ec : E} {pos : Pos}
theorem c_none : PTs X [] (tTc (fm X O lo W) none) := ⟨fun pins s σ H Q I ⟨env, ρ, S, Y, fs, po⟩ => pts_nil.run pins s σ H Q I (po true H Ste.refl fs.cf rfl)⟩
theorem c_some (h : PT X c (tB' (fm X O lo W) ec)) : PTs X [c] (tTc (fm X O lo W) (some ec)) := ⟨fun pins s σ H Q I ⟨env, ρ, S, Y, fs, po⟩ => (pts_one h).run pins s σ H Q I (by
  simp only [evc] at po
  refine ⟨env, ρ, S, Y, fs, ?_⟩
  have e : ∀ r : Res Wd, (r.bind fun w S1 => (Rf.orNo (asB w) S1).bind fun i _ => (.ok i S1 : Res Bool)) = r.bind fun w S1 => Rf.orNo (asB w) S1 := by
    intro r
    cases r with
    | no => rfl
    | ex c S => rfl
    | ok w S1 =>
      simp only [bind_ok]
      cases asB w <;> rfl
  rw [e] at po
  exact po)⟩
theorem wipe_idem {σ : L2.St} (vs : List Nat) : L2.wipe (L2.wipe σ vs) vs = L2.wipe σ vs := by
  have e : ∀ us : List Nat, (∀ i ∈ us, i ∈ vs) → L2.wipe (L2.wipe σ us) vs = L2.wipe σ vs := by
    intro us
    induction us with
    | nil => intro _; rfl
    | cons u us ih =>
      intro h
      show L2.wipe ((L2.wipe σ us).set u none) vs = _
      rw [wipe_set (h u (by simp))]
      exact ih fun i hi => h i (by simp [hi])
  exact e vs fun _ h => h
/-- an element of a comprehension: nothing, or a datum -/
def ROp (F : Fm) (ρ Y : List Addr) : Hp → Sto → Option V → Option PyData → Prop := fun H S v d => match v, d with
  | some v, some d => Rp F.K H (mu ρ S Y) v d
  | none, none => True
  | _, _ => False
theorem i_comp {vs : List Nat} {t : T} {it : I} {cc : Option E} {x : E} (hs : ∀ i ∈ t.slots, i ∈ vs) : ∀ σ H Q, tE (fm X O lo W) (.comp vs t it cc x) σ H Q → tLc (tI (fm X O lo W) it) (tT (fm X O lo W0) t) (tTc (fm X O lo W0) cc) (tE (fm X O lo W0) x) vs σ H Q := by
  rintro σ H Q ⟨env, ρ, S, Y, fs, po⟩
  simp only [ev] at po
  refine ⟨env, ρ, S, Y, fs, Po.bind po fun p S1 J H1 _ st1 cf1 ri h1 => ?_⟩
  obtain ⟨B, ⟨G, Yl, wlk, g1, gs, yl⟩, hlen, _⟩ := ri
  intro D hD
  have fs1 := fs.step st1 cf1
  generalize hf : (fun (y : PyData) (S : Sto) => (Rf.orNo (t.put y (wipeE env vs)) S).bind fun env1 S =>
      ((evc O lo cc env1 S).bind fun k S2 => if k then (ev O lo x env1 S2).bind fun w S3 => (toD lo w S3).bind fun z S4 => Res.ok (some z) S4 else .ok none S2).nox) = f at h1
  have smD : Same H1 (upd H1 D (.lst [])) := fun b o e => by rw [upd_ne (ne_of_none e hD)]; exact e
  refine lc_it wlk (fun i H2 => ∃ S2 acc xs, Ste lo H1 S1 H2 S2 ∧ Cf X.w X.K H2 ρ S2 (D :: Y) ∧ H2 D = some (.lst xs) ∧ RpA X.K H2 (mu ρ S2 (D :: Y)) xs acc ∧ acc.length ≤ i ∧
    Po (fm X O lo W) ρ Y σ (RW (fm X O lo W) ρ Y) H1 S1 ((compGo f (p.1.drop i) S2).bind fun ys S3 => .ok (.d (.list (acc ++ ys))) S3) Q) ?_ ?_ ?_ ?_
  · exact ⟨S1, [], [], Ste.of smD, cf1.res hD smD (by rw [upd_same]; simp), upd_same, .nil, Nat.le_refl _, by simpa using h1⟩
  · rintro i H2 hi ⟨S2, acc, xs, st2, _⟩
    exact gs H1 H2 g1 (Same.kp st2.same)
  · rintro i xv H2 H2' hi ⟨S2, acc, xs, st2, cf2, hDx, rr, hl, po2⟩ hy
    have old : ∀ v d, Rp X.K H1 (mu ρ S1 Y) v d → Rp X.K H2 (mu ρ S2 (D :: Y)) v d := fun v d r => by
      have r1 : Rp X.K H2 (mu ρ S1 (D :: Y)) v d := rp_res hD st2.same r
      exact (show Ste lo H2 S1 H2 S2 from ⟨Same.refl _, st2.len, st2.frz⟩).rp r1
    obtain ⟨sm2, d, ed, rd⟩ := yl i H2 xv H2' (mu ρ S2 (D :: Y)) hi (gs H1 H2 g1 (Same.kp st2.same)) (fun a => cf2.mu_alive) old hy
    have edr : p.1.drop i = d :: p.1.drop (i + 1) := by
      obtain ⟨h1, h2⟩ := List.getElem?_eq_some_iff.mp ed
      rw [List.drop_eq_getElem_cons h1, h2]
    rw [edr] at po2
    simp only [compGo] at po2
    have hfd : f d S2 = (Rf.orNo (t.put d (wipeE env vs)) S2).bind fun env1 S =>
      ((evc O lo cc env1 S).bind fun k S2 => if k then (ev O lo x env1 S2).bind fun w S3 => (toD lo w S3).bind fun z S4 => Res.ok (some z) S4 else .ok none S2).nox := by rw [← hf]
    rw [hfd] at po2
    cases hpt : t.put d (wipeE env vs) with
    | none => rw [hpt] at po2; exact po2.elim
    | some env1 =>
      rw [hpt] at po2
      simp only [orNo_some, bind_ok] at po2
      have st3 : Ste lo H1 S1 H2' S2 := st2.trans (Ste.of sm2)
      have cf3 : Cf X.w X.K H2' ρ S2 (D :: Y) := cf2.grow sm2
      have fsb : Fs (fm X O lo W0) (L2.wipe σ vs) H2' (wipeE env vs) ρ S2 (D :: Y) := by
        have f1 := Fs.wipe fs1 vs
        refine ⟨cf3, f1.er.len, fun j w ej => ?_⟩
        obtain ⟨v, q1, q2⟩ := f1.er.at_ j w ej
        exact ⟨v, q1, (Ste.of (lo := lo) (S := S2) sm2).rw' ((show Ste lo H2 S1 H2 S2 from ⟨Same.refl _, st2.len, st2.frz⟩).rw' (rw_res hD st2.same q2))⟩
      refine ⟨wipeE env vs, ρ, S2, D :: Y, d, env1, fsb, rd, hpt, fun σ' hw fs' => ⟨(hw vs hs).trans (wipe_idem vs), ?_⟩⟩
      have po3 : Po (fm X O lo W0) ρ (D :: Y) σ' (ROp (fm X O lo W0) ρ (D :: Y)) H2' S2 ((evc O lo cc env1 S2).bind fun k S2 => if k then (ev O lo x env1 S2).bind fun w S3 => (toD lo w S3).bind fun z S4 => Res.ok (some z) S4 else .ok none S2)
          (fun y H4 => match y with
            | some v => ∃ acc, H4 D = some (.lst acc) ∧ acc.length < sizeLine ∧ ∃ S2 acc' xs, Ste lo H1 S1 (upd H4 D (.lst (acc ++ [v]))) S2 ∧ Cf X.w X.K (upd H4 D (.lst (acc ++ [v]))) ρ S2 (D :: Y) ∧ (upd H4 D (.lst (acc ++ [v]))) D = some (.lst xs) ∧ RpA X.K (upd H4 D (.lst (acc ++ [v]))) (mu ρ S2 (D :: Y)) xs acc' ∧ acc'.length ≤ i + 1 ∧
                Po (fm X O lo W) ρ Y σ (RW (fm X O lo W) ρ Y) H1 S1 ((compGo f (p.1.drop (i + 1)) S2).bind fun ys S3 => .ok (.d (.list (acc' ++ ys))) S3) Q
            | none => ∃ S2 acc xs, Ste lo H1 S1 H4 S2 ∧ Cf X.w X.K H4 ρ S2 (D :: Y) ∧ H4 D = some (.lst xs) ∧ RpA X.K H4 (mu ρ S2 (D :: Y)) xs acc ∧ acc.length ≤ i + 1 ∧
                Po (fm X O lo W) ρ Y σ (RW (fm X O lo W) ρ Y) H1 S1 ((compGo f (p.1.drop (i + 1)) S2).bind fun ys S3 => .ok (.d (.list (acc ++ ys))) S3) Q) := by
        have assoc : ∀ (r : Res (Option PyData)), ((r.bind fun y S1 => (compGo f (p.1.drop (i + 1)) S1).bind fun ys S2 => (.ok (optC y ys) S2 : Res (List PyData))).bind fun ys S3 => (.ok (.d (.list (acc ++ ys))) S3 : Res Wd)) =
            r.bind fun y S1 => (compGo f (p.1.drop (i + 1)) S1).bind fun ys S2 => .ok (.d (.list (acc ++ optC y ys))) S2 := by
          intro r
          cases r with
          | no => rfl
          | ex c S => rfl
          | ok y S =>
            simp only [bind_ok]
            cases compGo f (p.1.drop (i + 1)) S <;> rfl
        rw [assoc] at po2
        refine Po.nox (F0 := fm X O lo W0) po2 fun y S4 v H4 _ st4 cf4 ro h4 => ?_
        have hD4 : H4 D = some (.lst xs) := st4.same _ _ (sm2 _ _ hDx)
        have rr4 := st4.rpa ((Ste.of (lo := lo) (S := S2) sm2).rpa rr)
        have st14 : Ste lo H1 S1 H4 S4 := st3.trans st4
        cases y with
        | none =>
          cases v with
          | some v => exact ro.elim
          | none => exact ⟨S4, acc, xs, st14, cf4, hD4, rr4, by omega, h4⟩
        | some z =>
          cases v with
          | none => exact ro.elim
          | some v =>
            have ro : Rp X.K H4 (mu ρ S4 (D :: Y)) v z := ro
            refine ⟨xs, hD4, by rw [rr.len]; omega, S4, acc ++ [z], xs ++ [v], ⟨fun b o eb => ?_, st14.len, st14.frz⟩, cf4.updY hD4, upd_same, ?_, by simp; omega, ?_⟩
            · rw [upd_ne (ne_of_none eb hD)]
              exact st14.same b o eb
            · exact (RpA.mono (lr_upd (.inl (by simp)) hD4) (sqT_upd hD4) _ _ rr4).app (.cons (Rp.mono (lr_upd (.inl (by simp)) hD4) (sqT_upd hD4) _ _ ro) .nil)
            · simpa [optC] using h4
      refine ⟨env1, ρ, S2, D :: Y, fs', Po.bind po3 fun bb S3 b' H3 _ st4 cf4 req h4 => ?_⟩
      have req : b' = bb := req
      subst req
      cases b' with
      | false =>
        rw [if_neg (by simp)] at h4 ⊢
        exact h4 none H3 Ste.refl cf4 trivial
      | true =>
        rw [if_pos rfl] at h4 ⊢
        refine ⟨env1, ρ, S3, D :: Y, fs'.step st4 cf4, Po.bind h4 fun w S4 v H4 _ st5 cf5 rw5 h5 => ?_⟩
        cases e1 : toD lo w S4 with
        | no => rw [e1] at h5; exact h5.elim
        | ex c S5 => exact (toD_nex e1).elim
        | ok z S5 =>
          rw [e1] at h5
          obtain ⟨st6, cf6, rp6⟩ := toD_ok cf5 rw5 e1
          exact h5 (some v) H4 st6 cf6 rp6
  · rintro H2 ⟨S2, acc, xs, st2, cf2, hDx, rr, hl, po2⟩
    have e : p.1.drop p.1.length = [] := List.drop_length
    rw [e] at po2
    simp only [compGo, bind_ok, List.append_nil] at po2
    refine po2 (.ref D) H2 st2 cf2.unres (.lst (.inl ⟨.inl hDx, fun z => ?_⟩) (rpa_unres rr))
    rcases z with z | ⟨n, o, z1, z2, z3⟩
    · exact absurd (by rw [hD] : H1 D = none) (cf1.alive D z)
    · exact cf2.sep D (List.mem_of_getElem? z1) (by simp)
theorem s_comp {vs : List Nat} {t : T} {it : I} {cc : Option E} {x : E} {e iter : Expr} {ifs : List Expr} {scope : Scope} (ok : XOk X O k sc so) (tk : Takes X W) (hb : BlkOk X.N X.env.scope scope (ownOf k.N vs)) (ho : (ownOf k.N vs).map (·.2) = vs) (hs : ∀ i ∈ t.slots, i ∈ vs)
    (hp : plainX iter = true) (hi : PI X tg iter (tI (fm X O lo W) it)) (hg : ∀ (s : Shared) (H : Hp) (C : Addr) (cl : List (Str × Addr)) (fp : List Addr), PG (X.blk s H scope (compEnvC scope cl C X.env) fp) tg (tT (fm X O lo W0) t))
    (ht : ∀ (s : Shared) (H : Hp) (C : Addr) (cl : List (Str × Addr)) (fp : List Addr), PTs (X.blk s H scope (compEnvC scope cl C X.env) fp) ifs (tTc (fm X O lo W0) cc))
    (he : ∀ (s : Shared) (H : Hp) (C : Addr) (cl : List (Str × Addr)) (fp : List Addr), PE (X.blk s H scope (compEnvC scope cl C X.env) fp) e (tE (fm X O lo W0) x)) :
    PE X (.ListComp e [⟨tg, iter, ifs, 0⟩] scope pos) (tE (fm X O lo W) (.comp vs t it cc x)) := by
  refine PE_imp (pe_lc ok.calm ok.nd hi hb hg ht he (fold_of hp _)) ?_
  rw [ho]
  exact i_comp hs
end
end Rf
namespace Rf
open PySem PySem.Spec PyProof.Rows L2
section
variable {X : Cx}
/-- a set comprehension of texts, D the set -/
def tSk (P : Program) (w : World) (wi : TI) (g : TG) (te : TE) (vs : List Nat) : TE := fun σ H Q => wi σ H fun J H1 => ∀ D, H1 D = none → ∃ W : Nat → Nat → Hp → Prop,
  (∃ m, W 0 m (upd H1 D (SetK P w D (fun _ => false) 0))) ∧ ∀ i m H, W i m H →
    ((J.stop i H ∧ Q (.ref D) H) ∨
      (J.go i H ∧ ∃ Nx : Hp → Prop, (∀ H', Nx H' → ∃ m', m' < m ∧ W (i + 1) m' H') ∧ ∀ x H', J.yld i H x H' → g x (L2.wipe σ vs) H' fun σ2 H2 => L2.wipe σ2 vs = L2.wipe σ vs ∧
        te σ2 H2 fun y H4 => ∃ (c : Key) (S : Key → Bool) (n : Nat), y = kV c ∧ H4 D = some (SetK P w D S n) ∧ n + 1 < scanBound ∧
          Nx (upd H4 D (SetK P w D (fun j => S j || decide (j = c)) (if S c = true then n else n + 1)))))
theorem addK {pins : List (Addr × Obj)} {σ : L2.St} {H : Hp} {s : Shared} {Ex : Value → Shared → Prop} {D : Addr} {S : Key → Bool} {n : Nat} {c : Key} {u : Value} {Q : Value → Shared → Prop} (I : Inv X pins σ H s) (ry : RelV (kV c) u) (hD : H D = some (SetK X.prog X.w D S n)) (hn : n + 1 < scanBound)
    (q : ∀ s', Inv X pins σ (upd H D (SetK X.prog X.w D (fun j => S j || decide (j = c)) (if S c = true then n else n + 1))) s' → Q .none s') : wpAny (model X.prog X.w) X.A (call (.builtin "set.add") [.ref D, u]) Q Ex s := by
  refine call_set_add (kV_is ry) (key_scan ry) (setK_get I hD) hn fun hh sb nw => q _ ?_
  have there : ∃ z, hh.get? D = some z := by
    obtain ⟨z, _, _, _, hz, _⟩ := nw
    exact ⟨z, hz⟩
  exact I.write (e := D) (t' := s.toks + 1) (by rw [hD]; trivial) (.inl rfl) (fun b z h1 h2 => (sb.2 b h1).trans h2) there (setK_new nw)
theorem sk_core {pins : List (Addr × Obj)} {s : Shared} {σ : L2.St} {H : Hp} {Q : VK} {elt tg iter : Expr} {sco : Scope} {own : List (Str × Nat)} {pos pos' : Pos} {wi : TI} {g : TG} {te : TE} {Qf : Value → Shared → Prop}
    (calm : X.calm = true) (ndN : X.N.Nodup) (I : Inv X pins σ H s) (hi : PI X tg iter wi) (bk : BlkOk X.N X.env.scope sco own)
    (hg : ∀ (s : Shared) (H : Hp) (C : Addr) (cl : List (Str × Addr)) (fp : List Addr), PG (X.blk s H sco (compEnvC sco cl C X.env) fp) tg g)
    (he : ∀ (s : Shared) (H : Hp) (C : Addr) (cl : List (Str × Addr)) (fp : List Addr), PE (X.blk s H sco (compEnvC sco cl C X.env) fp) elt te)
    (fold : ∀ x, foldedSetIterable iter X.env x = pure x) (h : tSk X.prog X.w wi g te (own.map (·.2)) σ H Q)
    (fin : ∀ D C s' m H', Inv X pins σ H' s' → Q (.ref D) H' → s'.heap.Ns C m → FpOk X pins H' C → compPost (model X.prog X.w) X.A X.xe none Qf (.ref D) C (.ok .next) s') :
    wpAny (model X.prog X.w) X.A (comprehension (.SetComp elt [⟨tg, iter, [], 0⟩] sco pos) sco X.env pos' (newSet (.type "set")) false (eval iter X.env) none) Qf X.xe s := by
  have cells : ∀ y ∈ sco.names, y.2 = .free → ∃ c, X.env.cells.lookup y.1 = some c := fun y hy e => (bk.free y hy e).elim (fun k => I.ok.has _ (.inl k)) fun k => I.ok.has _ (.inr k)
  refine wpAny_comprehension_free (use := none) rfl fold (closure_ok cells) bk.kind (fun y hy e => by rw [bk.uniq y hy, e]) (thn (hi.run pins s σ H _ I h) fun _ s1 hx => thn hx fun _ s2 h2 => ?_)
  obtain ⟨it, fp, tn, J, Ha, rfl, Ia, T, sta, fpa, q⟩ := h2
  refine PpSet.newSet_ok (newEnv_comp ?_)
  generalize eD : s2.heap.objs.size = D
  have noD : Ha D = none := Ia.hok.fresh (Nat.le_of_eq eD)
  obtain ⟨W, ⟨m0, w0⟩, turn⟩ := q D noD
  generalize e3 : ({ s2 with heap := s2.heap.push { cls := .type "set", dict := none, data := .set #[] 0 (.fresh 0 0 (!X.w.params.followText "set-order")) } } : Shared) = s3
  have hp3 : s3.heap = s2.heap.push { cls := .type "set", dict := none, data := .set #[] 0 (.fresh 0 0 (!X.w.params.followText "set-order")) } := by rw [← e3]
  have I3 : Inv X pins σ (upd Ha D (SetK X.prog X.w D (fun _ => false) 0)) s3 := by
    have nw : (s2.heap.push { cls := .type "set", dict := none, data := .set #[] 0 (.fresh 0 0 (!X.w.params.followText "set-order")) }).SetOf (mixKind X.prog X.w) s2.heap.objs.size (fun _ => false) 0 :=
      ⟨_, #[], 0, _, Heap.get?_push_size _ rfl, ⟨rfl, rfl, rfl⟩, rfl, fun z hz => absurd hz (by simp), fun z => by simp, by decide, by rfl, rfl⟩
    rw [← e3, ← eD]
    exact Ia.laid (t' := s2.toks) (fun b o e => Heap.get?_push_of_some _ e) (Nat.le_refl _) (setK_new nw)
  have below : ∀ b ∈ fp, b < s2.heap.objs.size := fun b hb => let ⟨_, e, _⟩ := T.obj _ _ sta b hb; Heap.lt_size e
  have fp3 : ∀ b ∈ fp, FpOk X pins (upd Ha D (SetK X.prog X.w D (fun _ => false) 0)) b ∧ b < s3.heap.objs.size := fun b hb => by
    have lt := below b hb
    have nb : upd Ha D (SetK X.prog X.w D (fun _ => false) 0) b = none := by
      rw [upd_ne (by rw [← eD]; exact Nat.ne_of_lt lt)]
      exact (fpa b hb).1
    exact ⟨⟨nb, (fpa b hb).2⟩, by rw [hp3, Heap.size_push]; exact Nat.lt_succ_of_lt lt⟩
  have st3 : tn 0 s3.heap := T.keep _ _ _ sta fun b _ o e => by rw [hp3]; exact Heap.get?_push_of_some _ e
  have I4 := block_start I3 bk ndN fp3
  have pg := hg s3 (upd Ha D (SetK X.prog X.w D (fun _ => false) 0)) s3.heap.objs.size (cellsFrom (s3.heap.objs.size + 1) sco.names (cloFrom X.env.cells sco.names [])) fp
  have pe := he s3 (upd Ha D (SetK X.prog X.w D (fun _ => false) 0)) s3.heap.objs.size (cellsFrom (s3.heap.objs.size + 1) sco.names (cloFrom X.env.cells sco.names [])) fp
  have noF : ∀ b ∈ fp, (upd Ha D (SetK X.prog X.w D (fun _ => false) 0)) b = none := fun b hb => (fp3 b hb).1.1
  show codeAny _ _ (.compStart (.SetComp elt [⟨tg, iter, [], 0⟩] sco pos) 0 (.ref it) (.ref D) (compEnvC sco (cellsFrom (s3.heap.objs.size + 1) sco.names (cloFrom X.env.cells sco.names [])) s3.heap.objs.size X.env))
    (compPost (model X.prog X.w) X.A X.xe none Qf (.ref D) s3.heap.objs.size) { s3 with heap := pushCells (s3.heap.push { cls := .type "dict", data := .dict #[] }) sco.names }
  generalize eE : compEnvC sco (cellsFrom (s3.heap.objs.size + 1) sco.names (cloFrom X.env.cells sco.names [])) s3.heap.objs.size X.env = be at I4 pg pe ⊢
  have beL : be.locals = s3.heap.objs.size := by rw [← eE]; rfl
  generalize eH : upd Ha D (SetK X.prog X.w D (fun _ => false) 0) = Hs at I3 I4 pg pe w0 noF fp3
  generalize e4 : ({ s3 with heap := pushCells (s3.heap.push { cls := .type "dict", data := .dict #[] }) sco.names } : Shared) = s4 at I4 ⊢
  have st4 : tn 0 s4.heap := T.keep _ _ _ st3 fun b _ o e => by rw [← e4]; exact pushCells_keeps _ _ _ _ (Heap.get?_push_of_some _ e)
  have fps : ∀ {σ' : L2.St} {H' : Hp} {s' : Shared}, Inv (X.blk s3 Hs sco be fp) [] σ' H' s' → (∀ b ∈ fp, H' b = none) → ∀ b ∈ fp, FpOk (X.blk s3 Hs sco be fp) [] H' b := fun {σ' H' s'} J' hn b hb =>
    ⟨hn b hb, (J'.ok.exf b hb).1, J'.ok.exfs b hb, .inl hb, fun x c e => (J'.ok.exf b hb).2 x c e, fun p hp => absurd (show p ∈ ([] : List (Addr × Obj)) ++ [] from hp) (by simp)⟩
  have loop : codeAny (model X.prog X.w) X.A (.compLoop (.SetComp elt [⟨tg, iter, [], 0⟩] sco pos) 0 (.ref it) (.ref D) be) (compPost (model X.prog X.w) X.A X.xe none Qf (.ref D) s3.heap.objs.size) s4 := by
    refine PpSet.compLoopS_any (fun n s' => ∃ i H', Inv (X.blk s3 Hs sco be fp) [] (L2.wipe σ (own.map (·.2))) H' s' ∧ tn i s'.heap ∧ (∀ b ∈ fp, H' b = none) ∧ W i n H') ?_ m0 ⟨0, Hs, I4, st4, noF, w0⟩
    rintro n sa ⟨i, Hb, Ib, stb, nb, wb⟩
    rcases turn i n Hb wb with ⟨stop, ready⟩ | ⟨go, Nx, hNx, step⟩
    · refine thnF (T.done (X.blk s3 Hs sco be fp) rfl rfl rfl calm i [] sa _ Hb (fun _ _ => False) Ib (fps Ib nb) stb stop) fun r sb ⟨hr, Ic⟩ => ?_
      subst hr
      have Id : Inv X pins σ Hb sb := I3.call' (ch := fp) Ic.os Ic.base Ic.hok Ic.bare fun b hb => ⟨(fp3 b hb).1.2.2.2.1, (fp3 b hb).1.2.1, (fp3 b hb).1.2.2.2.2.1, (fp3 b hb).1.2.2.2.2.2⟩
      have nC : Hb s3.heap.objs.size = none := beL ▸ (show Hb be.locals = none from Ic.free)
      obtain ⟨m, hm, _⟩ := Ic.loc
      have hm : sb.heap.Ns be.locals m := hm
      exact fin D s3.heap.objs.size sb m Hb Id ready (beL ▸ hm) (I3.fpOk (Nat.le_refl _) nC)
    · refine thnF (T.item (X.blk s3 Hs sco be fp) rfl rfl rfl calm i [] sa _ Hb (fun _ _ => False) Ib (fps Ib nb) stb go) fun r sb ⟨u, hr, hu⟩ => ?_
      subst hr
      refine thnF hu fun _ sc ⟨x, Hc, Ic, rc, yc, stc, nc⟩ => ?_
      have Ip := Ic.pinned (fps Ic nc) (T.obj _ _ stc)
      refine thnF (pg.run _ sc _ Hc x u _ Ip rc (step x Hc yc)) fun _ sd ⟨σd, Hd, Id, hwd, qd⟩ => ?_
      refine thnF ((pts_nil (X := X.blk s3 Hs sco be fp)).run _ sd σd Hd (fun b H' => b = true ∧ H' = Hd) Id ⟨rfl, rfl⟩) fun b se ⟨He, Ie, eb, eHd⟩ => ?_
      subst eb eHd
      simp only [if_true]
      refine thnF (pe.run _ se σd He _ Ie qd) fun z sf ⟨yv, Hf, If, rf, c, S, k, ey, hDk, room, nx⟩ => ?_
      subst ey
      refine addK (X := X.blk s3 Hs sco be fp) If rf hDk room fun sg Ig => ?_
      obtain ⟨m', lt, wg⟩ := hNx _ nx
      have pin : ∀ b ∈ fp, ∀ o, sc.heap.get? b = some o → sg.heap.get? b = some o ∧ (upd Hf D (SetK X.prog X.w D (fun j => S j || decide (j = c)) (if S c = true then k else k + 1))) b = none := fun b hb o e =>
        let z := Ig.pin (b, o) (List.mem_append_right _ (List.mem_append_right _ (mem_pinsAt hb e)))
        ⟨z.1, z.2.1⟩
      refine ⟨m', lt, i + 1, _, (Ig.unpinned (pins := [])).weak (by rw [← hwd, wipe_length]) (fun j v e => ?_), T.keep _ _ _ stc fun b hb o e => (pin b hb o e).1, fun b hb => ?_, wg⟩
      · rw [← hwd] at e
        exact (wipe_some e).1
      · obtain ⟨o, e, _⟩ := T.obj _ _ stc b hb
        exact (pin b hb o e).2
  exact PpSet.codeAny_compStart_set loop (T.self X.A 0 _ _ _ st4 loop)
/-- len({text for ..}) -/
theorem pe_lsk {elt tg iter : Expr} {sco : Scope} {own : List (Str × Nat)} {p1 p2 p3 : Pos} {wi : TI} {g : TG} {te : TE} (calm : X.calm = true) (ndN : X.N.Nodup) (hl : Gl X "len") (hm : X.mg "len" = none) (hi : PI X tg iter wi) (bk : BlkOk X.N X.env.scope sco own)
    (hg : ∀ (s : Shared) (H : Hp) (C : Addr) (cl : List (Str × Addr)) (fp : List Addr), PG (X.blk s H sco (compEnvC sco cl C X.env) fp) tg g)
    (he : ∀ (s : Shared) (H : Hp) (C : Addr) (cl : List (Str × Addr)) (fp : List Addr), PE (X.blk s H sco (compEnvC sco cl C X.env) fp) elt te)
    (fold : ∀ x, foldedSetIterable iter X.env x = pure x) :
    PE X (.Call (.Name "len" p1) [.SetComp elt [⟨tg, iter, [], 0⟩] sco p2] [] p3) (fun σ H Q => tSk X.prog X.w wi g te (own.map (·.2)) σ H fun v H1 => ∃ (D : Addr) (S : Key → Bool) (n : Nat), v = .ref D ∧ H1 D = some (SetK X.prog X.w D S n) ∧ Q (.int n) H1) := by
  refine ⟨fun pins s σ H Q I h => ?_⟩
  refine Call_ (ld_blt I hl hm PySem.boot_len ?_)
  refine PyProof.Rows.callWith_builtin1 (PyProof.Rows.args_cons ?_ rfl) rfl rfl
  rw [PpSet.eval_SetComp]
  refine sk_core calm ndN I hi bk hg he fold h fun D C s' m H' I' q hn f => ⟨m, hn, fun hh sb => ?_⟩
  obtain ⟨f0, f1, f2, f3, f4, f5⟩ := f
  have I2 : Inv X pins σ H' { s' with heap := hh } := I'.turned (t' := s'.toks) (fun b o hb e => (sb.2 b hb).trans e) f0 f1 f3 f4 f5
  refine PyProof.Rows.args_nil ?_
  obtain ⟨D2, S, n, e, hD, q⟩ := q
  cases e
  have R := setK_get I2 hD
  obtain ⟨o, es, ep, t, ho, hex, hd, _, _, hb, hf, rfl⟩ := R
  have big : (es.size : Int) < 2 ^ 63 := by
    have : es.size < 4096 := hb
    omega
  exact call_len_set ho hex hd hf big ⟨.int es.size, H', I2.tok _, ⟨_, rfl⟩, q⟩
end
end Rf
namespace Rf
open PySem PySem.Spec PyProof.Rows L2
theorem sk_it {P : Program} {w : World} {J : It} {n : Nat} {G : Hp → Prop} {Y : Nat → Hp → V → Hp → Prop} (wk : L2.Walk J n G Y) {g : TG} {te : TE} {vs : List Nat} {σ : L2.St} {H1 : Hp} {D : Addr} {Qd : Hp → Prop} (Pv : Nat → Hp → Prop) (h0 : Pv 0 (upd H1 D (SetK P w D (fun _ => false) 0))) (hG : ∀ i H, i ≤ n → Pv i H → G H)
    (hs : ∀ i x H H', i < n → Pv i H → Y i H x H' → g x (L2.wipe σ vs) H' fun σ2 H2 => L2.wipe σ2 vs = L2.wipe σ vs ∧
      te σ2 H2 fun y H4 => ∃ (c : Key) (S : Key → Bool) (m : Nat), y = kV c ∧ H4 D = some (SetK P w D S m) ∧ m + 1 < scanBound ∧ Pv (i + 1) (upd H4 D (SetK P w D (fun j => S j || decide (j = c)) (if S c = true then m else m + 1)))) (hd : ∀ H, Pv n H → Qd H) :
    ∃ W : Nat → Nat → Hp → Prop, (∃ m, W 0 m (upd H1 D (SetK P w D (fun _ => false) 0))) ∧ ∀ i m H, W i m H →
      ((J.stop i H ∧ Qd H) ∨
        (J.go i H ∧ ∃ Nx : Hp → Prop, (∀ H', Nx H' → ∃ m', m' < m ∧ W (i + 1) m' H') ∧ ∀ x H', J.yld i H x H' → g x (L2.wipe σ vs) H' fun σ2 H2 => L2.wipe σ2 vs = L2.wipe σ vs ∧
          te σ2 H2 fun y H4 => ∃ (c : Key) (S : Key → Bool) (n : Nat), y = kV c ∧ H4 D = some (SetK P w D S n) ∧ n + 1 < scanBound ∧
            Nx (upd H4 D (SetK P w D (fun j => S j || decide (j = c)) (if S c = true then n else n + 1))))) := by
  refine ⟨fun i m H => m = n - i ∧ i ≤ n ∧ Pv i H, ⟨n, rfl, Nat.zero_le _, h0⟩, fun i m H ⟨em, hi, p⟩ => ?_⟩
  subst em
  have q := hG i H hi p
  rcases Nat.lt_or_ge i n with lt | ge
  · exact .inr ⟨wk.goes i H lt q, Pv (i + 1), fun H' p' => ⟨n - (i + 1), by omega, rfl, lt, p'⟩, fun x H' y => hs i x H H' lt p (wk.yields i H x H' lt q y)⟩
  · obtain rfl : i = n := by omega
    exact .inl ⟨wk.stops H q, hd H p⟩
/-- the texts that a set holds -/
def hasS (zs : List Str) : Key → Bool := fun k => zs.any fun z => decide (k = .inr z)
theorem hasS_nil : hasS [] = fun _ => false := rfl
theorem hasS_app (zs : List Str) (z : Str) : hasS (zs ++ [z]) = fun k => hasS zs k || decide (k = .inr z) := by
  funext k
  unfold hasS
  rw [List.any_append]
  simp
theorem hasS_mem (zs : List Str) (z : Str) : hasS zs (.inr z) = true ↔ z ∈ zs := by
  unfold hasS
  rw [List.any_eq_true]
  constructor
  · rintro ⟨y, h1, h2⟩
    have := of_decide_eq_true h2
    cases this
    exact h1
  · exact fun h => ⟨z, h, by simp⟩
theorem dedup_app (z : Str) : ∀ zs : List Str, (dedup (zs ++ [z])).length = if hasS zs (.inr z) = true then (dedup zs).length else (dedup zs).length + 1 := by
  intro zs
  rw [show (if hasS zs (.inr z) = true then (dedup zs).length else (dedup zs).length + 1) = if z ∈ zs then (dedup zs).length else (dedup zs).length + 1 from by
    by_cases h : z ∈ zs
    · rw [if_pos h, if_pos ((hasS_mem _ _).mpr h)]
    · rw [if_neg h, if_neg fun q => h ((hasS_mem _ _).mp q)]]
  induction zs with
  | nil => simp [dedup]
  | cons x r ih =>
    show (if x ∈ r ++ [z] then dedup (r ++ [z]) else x :: dedup (r ++ [z])).length = _
    by_cases h1 : x ∈ r
    · have e2 : dedup (x :: r) = dedup r := by show (if x ∈ r then _ else _) = _; rw [if_pos h1]
      rw [if_pos (by simp [h1]), ih, e2]
      by_cases h2 : z ∈ r
      · rw [if_pos h2, if_pos (by simp [h2])]
      · rw [if_neg h2, if_neg (by
          intro q
          rcases List.mem_cons.mp q with q | q
          · exact h2 (q ▸ h1)
          · exact h2 q)]
    · have e2 : dedup (x :: r) = x :: dedup r := by show (if x ∈ r then _ else _) = _; rw [if_neg h1]
      by_cases h3 : x = z
      · subst h3
        rw [if_pos (by simp), ih, if_neg h1, e2, if_pos (by simp)]
        rfl
      · rw [if_neg (by simp [h1, h3]), e2]
        show (dedup (r ++ [z])).length + 1 = _
        rw [ih]
        by_cases h2 : z ∈ r
        · rw [if_pos h2, if_pos (by simp [h2])]; rfl
        · rw [if_neg h2, if_neg (by
            intro q
            rcases List.mem_cons.mp q with q | q
            · exact h3 q.symm
            · exact h2 q)]; rfl
section
variable {K : Frag} {H H' : Hp} {ρ Y : List Addr} {S : Sto} {D : Addr}
theorem lr_any {M : Pr} {o : HO} (hM : M D) : ∀ a ys, LR K H M a ys → LR K (upd H D o) M a ys := fun a ys l => by
  rcases l with ⟨l1, l2⟩ | l
  · have ne : a ≠ D := fun e => l2 (e ▸ hM)
    exact .inl ⟨l1.elim (fun z => .inl ((upd_ne ne).trans z)) fun ⟨u, z⟩ => .inr ⟨u, (upd_ne ne).trans z⟩, l2⟩
  · exact .inr l
theorem sqT_any {f : Heap → Prop} {o : HO} (hD : H D = some (.ext f)) : ∀ a ys, SqT K H a ys → SqT K (upd H D o) a ys := fun a ys l => by
  have ne : ∀ {u : HO}, H a = some u → (∀ g, u ≠ .ext g) → a ≠ D := fun e n z => by
    subst z
    rw [hD] at e
    cases e
    exact n _ rfl
  rcases l with (l | ⟨u, l⟩) | l
  · exact .inl (.inl ((upd_ne (ne l fun _ z => nomatch z)).trans l))
  · exact .inl (.inr ⟨u, (upd_ne (ne l fun _ z => nomatch z)).trans l⟩)
  · exact .inr l
theorem Cf.updE {f : Heap → Prop} {o : HO} (c : Cf ω K H ρ S (D :: Y)) (hD : H D = some (.ext f)) : Cf ω K (upd H D o) ρ S (D :: Y) := by
  refine ⟨c.len, c.nd, fun a h => ?_, c.sep, fun n a u h1 h2 => ?_⟩
  · rcases Classical.em (a = D) with e | e
    · rw [e, upd_same]; exact fun z => nomatch z
    · rw [upd_ne e]; exact c.alive a h
  · have ne : a ≠ D := fun z => c.sep a (List.mem_of_getElem? h1) (z ▸ List.mem_cons_self ..)
    exact (c.ent n a u h1 h2).mono (lr_any (.inl (List.mem_cons_self ..))) (sqT_any hD) fun _ e => (upd_ne ne).trans e
end
section
variable {X : Cx} {O : Orc} {k : Ck} {sc so : Scope} {lo : Nat} {W : WX} {a b c tg : Expr} {ea eb ec : E} {pos : Pos}
theorem strs_str : ∀ (zs : List Str) (ys : List PyData), Rf.strsOf (zs.map PyData.str ++ ys) = (Rf.strsOf ys).map (zs ++ ·)
  | [], ys => by cases h : Rf.strsOf ys <;> simp [h]
  | z :: r, ys => by
    show (Rf.strsOf (r.map PyData.str ++ ys)).map (z :: ·) = _
    rw [strs_str r ys]
    cases Rf.strsOf ys <;> rfl
theorem i_lset {vs : List Nat} {t : T} {it : I} {x : E} (hs : ∀ i ∈ t.slots, i ∈ vs) : ∀ σ H Q, tE (fm X O lo W) (.lset vs t it x) σ H Q →
    tSk X.prog X.w (tI (fm X O lo W) it) (tT (fm X O lo W0) t) (tE (fm X O lo W0) x) vs σ H fun v H1 => ∃ (D : Addr) (S : Key → Bool) (n : Nat), v = .ref D ∧ H1 D = some (SetK X.prog X.w D S n) ∧ Q (.int n) H1 := by
  rintro σ H Q ⟨env, ρ, S, Y, fs, po⟩
  simp only [ev] at po
  refine ⟨env, ρ, S, Y, fs, Po.bind po fun p S1 J H1 _ st1 cf1 ri h1 => ?_⟩
  obtain ⟨B, ⟨G, Yl, wlk, g1, gs, yl⟩, hlen, _⟩ := ri
  intro D hD
  have fs1 := fs.step st1 cf1
  by_cases h8 : p.1.length ≤ 8
  case neg => rw [if_neg h8] at h1; exact h1.elim
  rw [if_pos h8] at h1
  generalize hf : (fun (y : PyData) (S : Sto) => (Rf.orNo (t.put y (wipeE env vs)) S).bind fun env1 S =>
      ((ev O lo x env1 S).bind fun w S3 => (Rf.orNo (asS w) S3).bind fun z _ => Res.ok (some (PyData.str z)) S3).nox) = f at h1
  have smD : Same H1 (upd H1 D (SetK X.prog X.w D (fun _ => false) 0)) := fun b o e => by rw [upd_ne (ne_of_none e hD)]; exact e
  refine sk_it wlk (fun i H2 => ∃ S2 zs, Ste lo H1 S1 H2 S2 ∧ Cf X.w X.K H2 ρ S2 (D :: Y) ∧ H2 D = some (SetK X.prog X.w D (hasS zs) (dedup zs).length) ∧ zs.length = i ∧
    Po (fm X O lo W) ρ Y σ (RW (fm X O lo W) ρ Y) H1 S1 ((compGo f (p.1.drop i) S2).bind fun ys S3 => (Rf.orNo (Rf.strsOf (zs.map PyData.str ++ ys)) S3).bind fun qs _ => .ok (.d (.int (dedup qs).length)) S3) Q) ?_ ?_ ?_ ?_
  · exact ⟨S1, [], Ste.of smD, cf1.res hD smD (by rw [upd_same]; simp), upd_same, rfl, by simpa using h1⟩
  · rintro i H2 hi ⟨S2, zs, st2, _⟩
    exact gs H1 H2 g1 (Same.kp st2.same)
  · rintro i xv H2 H2' hi ⟨S2, zs, st2, cf2, hDx, hl, po2⟩ hy
    have old : ∀ v d, Rp X.K H1 (mu ρ S1 Y) v d → Rp X.K H2 (mu ρ S2 (D :: Y)) v d := fun v d r =>
      (show Ste lo H2 S1 H2 S2 from ⟨Same.refl _, st2.len, st2.frz⟩).rp (rp_res hD st2.same r)
    obtain ⟨sm2, d, ed, rd⟩ := yl i H2 xv H2' (mu ρ S2 (D :: Y)) hi (gs H1 H2 g1 (Same.kp st2.same)) (fun a => cf2.mu_alive) old hy
    have edr : p.1.drop i = d :: p.1.drop (i + 1) := by
      obtain ⟨h1, h2⟩ := List.getElem?_eq_some_iff.mp ed
      rw [List.drop_eq_getElem_cons h1, h2]
    have hip : i < p.1.length := (List.getElem?_eq_some_iff.mp ed).1
    rw [edr] at po2
    simp only [compGo] at po2
    have hfd : f d S2 = (Rf.orNo (t.put d (wipeE env vs)) S2).bind fun env1 S =>
      ((ev O lo x env1 S).bind fun w S3 => (Rf.orNo (asS w) S3).bind fun z _ => Res.ok (some (PyData.str z)) S3).nox := by rw [← hf]
    rw [hfd] at po2
    cases hpt : t.put d (wipeE env vs) with
    | none => rw [hpt] at po2; exact po2.elim
    | some env1 =>
      rw [hpt] at po2
      simp only [orNo_some, bind_ok] at po2
      have st3 : Ste lo H1 S1 H2' S2 := st2.trans (Ste.of sm2)
      have cf3 : Cf X.w X.K H2' ρ S2 (D :: Y) := cf2.grow sm2
      have fsb : Fs (fm X O lo W0) (L2.wipe σ vs) H2' (wipeE env vs) ρ S2 (D :: Y) := by
        have f1 := Fs.wipe fs1 vs
        refine ⟨cf3, f1.er.len, fun j w ej => ?_⟩
        obtain ⟨v, q1, q2⟩ := f1.er.at_ j w ej
        exact ⟨v, q1, (Ste.of (lo := lo) (S := S2) sm2).rw' ((show Ste lo H2 S1 H2 S2 from ⟨Same.refl _, st2.len, st2.frz⟩).rw' (rw_res hD st2.same q2))⟩
      refine ⟨wipeE env vs, ρ, S2, D :: Y, d, env1, fsb, rd, hpt, fun σ' hw fs' => ⟨(hw vs hs).trans (wipe_idem vs), ?_⟩⟩
      refine ⟨env1, ρ, S2, D :: Y, fs', ?_⟩
      have assoc : ∀ (r : Res (Option PyData)), ((r.bind fun y S1 => (compGo f (p.1.drop (i + 1)) S1).bind fun ys S2 => (.ok (optC y ys) S2 : Res (List PyData))).bind fun ys S3 => (Rf.orNo (Rf.strsOf (zs.map PyData.str ++ ys)) S3).bind fun qs _ => (.ok (.d (.int (dedup qs).length)) S3 : Res Wd)) =
          r.bind fun y S1 => (compGo f (p.1.drop (i + 1)) S1).bind fun ys S3 => (Rf.orNo (Rf.strsOf (zs.map PyData.str ++ optC y ys)) S3).bind fun qs _ => .ok (.d (.int (dedup qs).length)) S3 := by
        intro r
        cases r with
        | no => rfl
        | ex c S => rfl
        | ok y S =>
          simp only [bind_ok]
          cases compGo f (p.1.drop (i + 1)) S <;> rfl
      rw [assoc] at po2
      have po3 : Po (fm X O lo W0) ρ (D :: Y) σ' (fun _ _ (v : V) (d : Option PyData) => ∃ z, d = some (.str z) ∧ v = .str z) H2' S2 ((ev O lo x env1 S2).bind fun w S3 => (Rf.orNo (asS w) S3).bind fun z _ => Res.ok (some (PyData.str z)) S3)
          (fun y H4 => ∃ (c : Key) (S : Key → Bool) (m : Nat), y = kV c ∧ H4 D = some (SetK X.prog X.w D S m) ∧ m + 1 < scanBound ∧
            ∃ S2 zs, Ste lo H1 S1 (upd H4 D (SetK X.prog X.w D (fun j => S j || decide (j = c)) (if S c = true then m else m + 1))) S2 ∧ Cf X.w X.K (upd H4 D (SetK X.prog X.w D (fun j => S j || decide (j = c)) (if S c = true then m else m + 1))) ρ S2 (D :: Y) ∧
              (upd H4 D (SetK X.prog X.w D (fun j => S j || decide (j = c)) (if S c = true then m else m + 1))) D = some (SetK X.prog X.w D (hasS zs) (dedup zs).length) ∧ zs.length = i + 1 ∧
              Po (fm X O lo W) ρ Y σ (RW (fm X O lo W) ρ Y) H1 S1 ((compGo f (p.1.drop (i + 1)) S2).bind fun ys S3 => (Rf.orNo (Rf.strsOf (zs.map PyData.str ++ ys)) S3).bind fun qs _ => .ok (.d (.int (dedup qs).length)) S3) Q) := by
        refine Po.nox (F0 := fm X O lo W0) po2 fun y S4 v H4 _ st4 cf4 ro h4 => ?_
        obtain ⟨z, rfl, rfl⟩ := ro
        have hD4 : H4 D = some (SetK X.prog X.w D (hasS zs) (dedup zs).length) := st4.same _ _ (sm2 _ _ hDx)
        have st14 : Ste lo H1 S1 H4 S4 := st3.trans st4
        have small : ∀ zs : List Str, (dedup zs).length ≤ zs.length := by
          intro zs
          induction zs with
          | nil => exact Nat.le_refl _
          | cons x r ih =>
            show (if x ∈ r then dedup r else x :: dedup r).length ≤ r.length + 1
            split
            · omega
            · simp; exact ih
        refine ⟨.inr z, hasS zs, (dedup zs).length, rfl, hD4, ?_, S4, zs ++ [z], ⟨fun b o eb => ?_, st14.len, st14.frz⟩, cf4.updE hD4, ?_, by simp [hl], ?_⟩
        · have := small zs
          unfold scanBound
          omega
        · rw [upd_ne (ne_of_none eb hD)]
          exact st14.same b o eb
        · rw [upd_same, hasS_app, dedup_app]
        · simpa [optC] using h4
      refine Po.bind po3 fun w S3 v H3 _ st4 cf4 rw3 h4 => ?_
      obtain ⟨z, e1, h4⟩ := Po.orNo h4
      have ew : w = .d (.str z) := by
        cases w with
        | r n => cases e1
        | d x => cases x <;> simp [asS] at e1; rw [e1]
      subst ew
      have ev : v = .str z := by
        cases (show Rp X.K H3 (mu ρ S3 (D :: Y)) v (.str z) from rw3)
        rfl
      subst ev
      exact h4 (.str z) H3 Ste.refl cf4 ⟨z, rfl, rfl⟩
  · rintro H2 ⟨S2, zs, st2, cf2, hDx, hl, po2⟩
    have e : p.1.drop p.1.length = [] := List.drop_length
    rw [e] at po2
    simp only [compGo, bind_ok, List.append_nil] at po2
    have e2 := strs_str zs []
    rw [List.append_nil] at e2
    rw [e2] at po2
    have po2 : Po (fm X O lo W) ρ Y σ (RW (fm X O lo W) ρ Y) H1 S1 (.ok (.d (.int (dedup (zs ++ [])).length)) S2) Q := po2
    rw [List.append_nil] at po2
    exact ⟨D, _, _, rfl, hDx, po2 (.int (dedup zs).length) H2 st2 cf2.unres (.int _)⟩
theorem s_lset {vs : List Nat} {t : T} {it : I} {x : E} {e iter : Expr} {scope : Scope} {y : Str} {p1 p2 p3 : Pos} (ok : XOk X O k sc so) (tk : Takes X W) (h1 : y = ("len" : Str)) (h2 : glB sc y = true) (hb : BlkOk X.N X.env.scope scope (ownOf k.N vs)) (ho : (ownOf k.N vs).map (·.2) = vs) (hs : ∀ i ∈ t.slots, i ∈ vs)
    (hp : plainX iter = true) (hi : PI X tg iter (tI (fm X O lo W) it)) (hg : ∀ (s : Shared) (H : Hp) (C : Addr) (cl : List (Str × Addr)) (fp : List Addr), PG (X.blk s H scope (compEnvC scope cl C X.env) fp) tg (tT (fm X O lo W0) t))
    (he : ∀ (s : Shared) (H : Hp) (C : Addr) (cl : List (Str × Addr)) (fp : List Addr), PE (X.blk s H scope (compEnvC scope cl C X.env) fp) e (tE (fm X O lo W0) x)) :
    PE X (.Call (.Name y p1) [.SetComp e [⟨tg, iter, [], 0⟩] scope p2] [] p3) (tE (fm X O lo W) (.lset vs t it x)) := by
  subst h1
  refine PE_imp (pe_lsk ok.calm ok.nd (ok.gl h2).1 (ok.bl "len" (by decide)) hi hb hg he (fold_of hp _)) ?_
  rw [ho]
  exact i_lset hs
end
end Rf
namespace Rf
open PySem PySem.Spec PyProof.Rows L2
theorem fm_congr {α β : Type} {f g : α → Option β} : ∀ {l : List α}, (∀ m ∈ l, f m = g m) → l.filterMap f = l.filterMap g
  | [], _ => rfl
  | x :: r, h => by
    rw [List.filterMap_cons, List.filterMap_cons, h x (List.mem_cons_self ..), fm_congr fun m hm => h m (List.mem_cons_of_mem _ hm)]
theorem pick_back (its : Array Value) : ((List.range its.size).filterMap fun (m : Nat) => its[(((its.size : Int) - 1) + (m : Int) * (-1)).toNat]?).toArray = its.toList.reverse.toArray := by
  have e := PySem.W.krv_range its.size
  have e1 : ((List.range its.size).filterMap fun (m : Nat) => its[(((its.size : Int) - 1) + (m : Int) * (-1)).toNat]?) = ((List.range its.size).map fun k => its.size - 1 - k).filterMap (its[·]?) := by
    rw [List.filterMap_map]
    refine fm_congr fun m hm => ?_
    have := List.mem_range.mp hm
    show its[(((its.size : Int) - 1) + (m : Int) * (-1)).toNat]? = its[its.size - 1 - m]?
    rw [show (((its.size : Int) - 1) + (m : Int) * (-1)).toNat = its.size - 1 - m by omega]
  rw [e1, e, List.filterMap_reverse, PySem.W.krv_all]
theorem sl_back {P : Program} {w : World} {A : Around} {Ex : Value → Shared → Prop} {s : Shared} {sl : Addr} {vl vu vs : Value} {n : Nat} {Q : Int × Int × Nat → Shared → Prop} (hs : s.heap.IsSliceOf sl vl vu vs) (pl : IsPart vl none) (pu : IsPart vu none) (ps : IsPart vs (some (-1)))
    (h : Q ((n : Int) - 1, -1, n) s) : wpAny (model P w) A (Builtin.Slice.sliceApplied (.ref sl) (pure (n : Int))) Q Ex s := by
  obtain ⟨o, ho, _, hd⟩ := hs
  unfold Builtin.Slice.sliceApplied Builtin.Slice.sliceFields
  refine wpAny_bind (wpAny_bind (wpAny_field ho hd (x := vl) rfl (wpAny_bind (wpAny_field ho hd (x := vu) rfl (wpAny_bind (wpAny_field ho hd (x := vs) rfl (wpAny_pure ?_)))))))
  refine wpAny_bind (HT.slicePart_ ps ?_)
  show wpAny _ _ (if ((-1 : Int) == 0) = true then _ else _) _ _ s
  rw [if_neg (by decide)]
  refine wpAny_bind (HT.slicePart_ pl (wpAny_bind (HT.slicePart_ pu (wpAny_bind (wpAny_pure ?_)))))
  have e1 : Builtin.Slice.sliceAdjust none none (-1) (n : Int) = ((n : Int) - 1, -1) := rfl
  have e2 : Builtin.Slice.slicePlaces ((n : Int) - 1) (-1) (-1) = n := by
    unfold Builtin.Slice.slicePlaces
    rw [if_neg (by decide)]
    have : ((n : Int) - 1 - -1 - 1) / (- -1) + 1 = n := by
      rw [show (- -1 : Int) = 1 by decide, Int.ediv_one]
      omega
    split <;> omega
  show wpAny _ _ (match Builtin.Slice.sliceAdjust none none (-1) (n : Int) with | (lo, hi) => pure (lo, (-1 : Int), Builtin.Slice.slicePlaces lo hi (-1))) _ _ s
  rw [e1]
  show wpAny _ _ (pure ((n : Int) - 1, (-1 : Int), Builtin.Slice.slicePlaces ((n : Int) - 1) (-1) (-1))) _ _ s
  rw [e2]
  exact wpAny_pure h
theorem get_back {P : Program} {w : World} {A : Around} {Ex : Value → Shared → Prop} {s : Shared} {t sl : Addr} {its : Array Value} {vl vu vs : Value} {Q : Value → Shared → Prop} (ht : IsTup s.heap t its) (hs : s.heap.IsSliceOf sl vl vu vs) (pl : IsPart vl none) (pu : IsPart vu none) (ps : IsPart vs (some (-1)))
    (q : Q (.ref s.heap.objs.size) { s with heap := s.heap.push { cls := .type "tuple", data := .seq its.toList.reverse.toArray } }) (hz : its.size ≤ sizeLine) : wpAny (model P w) A (getItem (.ref t) (.ref sl)) Q Ex s := by
  have fits : sizeOk (.seq its.toList.reverse.toArray) := by
    show its.toList.reverse.toArray.size ≤ sizeLine
    rw [List.size_toArray, List.length_reverse, Array.length_toList]
    exact hz
  obtain ⟨o, ho, hc, hd⟩ := id hs
  have isS : s.TypeIs (.ref sl) "slice" := ⟨o, ho, hc⟩
  unfold getItem
  try with_reducible refine wpAny_holding ?_
  first | refine wpAny_bind (wpAny_pure ?_) | skip
  refine wpAny_bind (wpAny_sequenceKey ht.typeIs (by decide) (wpAny_bind (wpAny_callSpecial?_slot (name := Str.ofString "__getitem__") ht.typeIs PyProof.Rows.slot_tuple_getitem
    (wpAny_call_entry PyProof.Rows.slot_tuple_getitem ht.typeIs PyProof.Rows.entry_tuple_getitem ?_ (PyProof.Rows.args_tuple_getitem _ _)))))
  show wpAny _ _ (Builtin.Tuple.tupleItemsOf (.ref t) >>= _) _ _ s
  refine wpAny_bind (tupleItemsOf_ ht (wpAny_bind (wpAny_typeOf isS ?_)))
  rw [if_pos (by decide)]
  refine wpAny_bind (sl_back (n := its.size) hs pl pu ps ?_)
  show wpAny _ _ (if (((its.size : Int) - 1) == 0 && (-1 : Int) == 1 && its.size == its.size) = true then _ else _) _ _ s
  rw [if_neg (by simp), pick_back]
  first
    | exact wpAny_bind (m := Builtin.Tuple.tupleExact _) (wpAny_newObj_type (wpAny_pure ⟨_, rfl, wpAny_pure q⟩) fits)
    | exact wpAny_bind (m := Builtin.Tuple.tupleExact _) (wpAny_newObj_type (wpAny_bind (wpAny_pure (wpAny_pure ⟨_, rfl, wpAny_pure q⟩))) fits)
    | exact wpAny_bind (wpAny_bind (m := Builtin.Tuple.tupleExact _) (wpAny_newObj_type (wpAny_pure (wpAny_pure ⟨_, rfl, wpAny_pure q⟩)) fits))
    | exact wpAny_bind (wpAny_bind (m := Builtin.Tuple.tupleExact _) (wpAny_newObj_type (wpAny_pure ⟨_, rfl, wpAny_pure q⟩) fits))
section
variable {X : Cx} {O : Orc} {k : Ck} {sc so : Scope} {lo : Nat} {W : WX} {a b c tg : Expr} {ea eb ec : E}
def tRevT (K : Frag) (te : TE) : TE := fun σ H Q => te σ H fun x H1 => ∃ a xs, x = .ref a ∧ SqT K H1 a xs ∧ ∀ p, H1 p = none → Q (.ref p) (upd H1 p (.tup xs.reverse))
theorem pe_revT {e : Expr} {te : TE} {j : Nat} {p1 p2 p3 p4 : Pos} (he : PE X e te) : PE X (.Subscript e (.Slice none none (some (.UnaryOp .USub (.Constant (.int 1) j p1) p2)) p3) p4) (tRevT X.K te) := by
  refine ⟨fun pins s σ H Q I h => Subscript_ (thn (he.run pins s σ H _ I h) fun v s1 ⟨x, H1, I1, r1, a, xs, ex, hx, q⟩ => ?_)⟩
  subst ex
  cases r1
  have one : PO X (some (.UnaryOp .USub (.Constant (.int 1) j p1) p2)) (tPart (tUn (rU fun i => .int (-i)) (tC (.int 1)))) := po_some (pe_un un_neg pe_int)
  refine wpAny_Slice (thn (po_none.run pins s1 σ H1 (fun o H' => o = none ∧ H' = H1) I1 ⟨rfl, rfl⟩) fun vl s2 ⟨_, H2, I2, pl, e1, e2⟩ => ?_)
  cases e1
  cases e2
  refine thn (po_none.run pins s2 σ H1 (fun o H' => o = none ∧ H' = H1) I2 ⟨rfl, rfl⟩) fun vu s3 ⟨_, H3, I3, pu, e1, e2⟩ => ?_
  cases e1
  cases e2
  refine thn (one.run pins s3 σ H1 (fun o H' => o = some (-1) ∧ H' = H1) I3 ⟨1, rfl, -1, rfl, rfl, rfl⟩) fun vs s4 ⟨_, H4, I4, ps, e1, e2⟩ => ?_
  cases e1
  cases e2
  have I5 : L2.Inv X pins σ H1 { s4 with heap := s4.heap.push { cls := .type "slice", data := .fields #[vl, vu, vs] } } := I4.kept (t' := s4.toks) fun b ob q => Heap.get?_push_of_some _ q
  obtain ⟨its, r, ht, hz⟩ := I5.tuple hx
  show wpAny (model X.prog X.w) X.A (subscriptTail e (.Slice none none (some (.UnaryOp .USub (.Constant (.int 1) j p1) p2)) p3) (.ref a) (.ref s4.heap.objs.size)) (EP X pins σ Q) X.xe
    { s4 with heap := s4.heap.push { cls := .type "slice", data := .fields #[vl, vu, vs] } }
  refine tail_any (ops := [.ref a, .ref s4.heap.objs.size]) ht.typeIs PyProof.Rows.slot_tuple_getitem.lookup ?_ (by with_unfolding_all rfl)
  refine get_back ht (Heap.IsSliceOf.new _ vl vu vs) pl pu ps ?_ (by rw [List.size_toArray, ← r.length]; exact hz)
  refine ⟨.ref _, _, I5.laid (t' := s4.toks) (o := .tup xs.reverse) (fun b ob q => Heap.get?_push_of_some _ q) (Nat.le_refl _) ⟨?_, its.reverse, r.reverse, ?_⟩, rfl, q _ (I5.hok.fresh (Nat.le_refl _))⟩
  · rw [List.length_reverse]; exact hz
  · exact IsTup.new _ _
theorem s_rev {j : Nat} {p1 p2 p3 p4 : Pos} (ha : PE X a (tE (fm X O lo W) ea)) : PE X (.Subscript a (.Slice none none (some (.UnaryOp .USub (.Constant (.int 1) j p1) p2)) p3) p4) (tE (fm X O lo W) (.rev ea)) := by
  refine PE_imp (pe_revT ha) ?_
  rintro σ H Q ⟨env, ρ, S, Y, fs, po⟩
  simp only [ev] at po
  refine ⟨env, ρ, S, Y, fs, Po.bind po fun x S1 v H1 _ st1 cf1 rw1 h1 => ?_⟩
  obtain ⟨x', e1, h1⟩ := Po.orNo h1
  cases x' with
  | tuple ds =>
    have h1 : Po (fm X O lo W) ρ Y σ (RW (fm X O lo W) ρ Y) H1 S1 (.ok (.d (.tuple ds.reverse)) S1) Q := h1
    obtain ⟨a, xs, rfl, q1, r1⟩ := (Vw.of cf1 rw1 e1).tuple
    refine ⟨a, xs, rfl, q1, fun p hp => ?_⟩
    obtain ⟨sm, rp⟩ := rp_newT (M := mu ρ S1 Y) (fun _ z => cf1.mu_alive z) hp r1.rev
    exact h1 _ _ (Ste.of sm) (cf1.grow sm) rp
  | _ => exact h1.elim
end
end Rf
namespace Rf
open PySem PySem.Spec PyProof.Rows L2

section
variable {O : Orc} {k : Ck} {lo : Nat}
/-- a comprehension's block -/
theorem XOk.blk {X : Cx} {sc so scope : Scope} (ok : XOk X O k sc so) {vs : List Nat} (hb : BlkOk X.N X.env.scope scope (ownOf k.N vs)) (s : Shared) (H : Hp) (C : Addr) (cl : List (Str × Addr)) (fp : List Addr) :
    XOk (X.blk s H scope (compEnvC scope cl C X.env) fp) O k (relS scope sc) scope := by
  have es : (compEnvC scope cl C X.env).scope = relS scope X.env.scope := rfl
  refine ⟨ok.N, by show (compEnvC scope cl C X.env).scope = _; rw [es, ok.sc], ok.calm, ok.nd, ok.hu, ok.fs, ok.cs, ok.bl, fun x hx => ?_⟩
  have kind : scope.names.lookup x = some .local ∨ scope.names.lookup x = some .cell := loc_of hx
  show Loc (compEnvC scope cl C X.env).scope x ∧ ((scope.names.lookup x == some NameKind.cell) = true ∨ (compEnvC scope cl C X.env).scope.names.lookup x = some .local)
  rw [es]
  rcases kind with q | q
  · have := lookup_relS_keep (sc := X.env.scope) (names := scope.names) (x := x) (k := .local) (by decide) q
    exact ⟨.inl this, .inr this⟩
  · have := lookup_relS_keep (sc := X.env.scope) (names := scope.names) (x := x) (k := .cell) (by decide) q
    exact ⟨.inr this, .inl (by rw [q]; rfl)⟩
theorem and3 {a b : Bool} (h : (a && b) = true) : a = true ∧ b = true := Bool.and_eq_true_iff.mp h
theorem noSl_of {e : Expr} (h : plainX e = true) : NoSl e := by
  intro ov iv
  cases e <;> first | rfl | cases h
theorem din_of {neg : Bool} {op : CmpOp} (h : dinB neg op = true) : (neg = false ∧ op = .In) ∨ (neg = true ∧ op = .NotIn) := by
  cases neg <;> cases op <;> first | exact .inl ⟨rfl, rfl⟩ | exact .inr ⟨rfl, rfl⟩ | cases h
theorem chkE_dget {k : Ck} {sc : Scope} {b a : E} {y z : Expr} {p : Pos} : chkE k sc (.dget b a) (.Subscript y z p) = (plainX z && chkE k sc b y && chkE k sc a z) := rfl
theorem chkE_idx {k : Ck} {sc : Scope} {a i : E} {y z : Expr} {p : Pos} : chkE k sc (.idx a i) (.Subscript y z p) = (plainX z && chkE k sc a y && chkE k sc i z) := rfl
theorem tst_cases {x : Expr} (h : tstX x = true) : valX x = true ∨ (∃ y p, x = .UnaryOp .Not y p) ∨ (∃ o es p, x = .BoolOp o es p) ∨ ∃ a o c p, x = .Compare a o c p := by
  cases x with
  | UnaryOp op y p => cases op <;> first | exact .inr (.inl ⟨_, _, rfl⟩) | exact .inl h
  | BoolOp op y p => exact .inr (.inr (.inl ⟨_, _, _, rfl⟩))
  | Compare a o c p => exact .inr (.inr (.inr ⟨_, _, _, _, rfl⟩))
  | _ => exact .inl h
theorem val_nob {x : Expr} (h : valX x = true) : isBoolOp x = false := by
  cases x <;> first | rfl | cases h
mutual
theorem snd_E : ∀ (e : E) (X : Cx) (sc so : Scope) (W : WX) (x : Expr), XOk X O k sc so → Takes X W → chkE k sc e x = true → PE X x (tE (fm X O lo W) e)
  | .var i, X, sc, so, W, x, ok, tk, h => by
    match x, h with
    | .Name y p, h =>
      have h : (decide (k.N[i]? = some y) && visB sc y && !(y == ("__debug__" : Str)) && !(y == ("__classdict__" : Str))) = true := h
      obtain ⟨h1, h4⟩ := and3 h
      obtain ⟨h1, h3⟩ := and3 h1
      obtain ⟨h1, h2⟩ := and3 h1
      exact s_var ok (of_decide_eq_true h1) h2 (by simpa using h3) (by simpa using h4)
  | .con c, X, sc, so, W, x, ok, tk, h => by
    match x, h with
    | .Constant b j p, h => exact s_con h
  | .glo n c, X, sc, so, W, x, ok, tk, h => by
    match x, h with
    | .Name y p, h =>
      have h : ((y == Str.ofString n) && glB sc y && (k.cs.any fun p => p.1 == n && same p.2 c)) = true := h
      obtain ⟨h1, h3⟩ := and3 h
      obtain ⟨h1, h2⟩ := and3 h1
      exact s_glo ok (by simpa using h1) h2 h3
  | .tup a, X, sc, so, W, x, ok, tk, h => by
    match x, h with
    | .Tuple es kk p, h =>
      obtain ⟨h1, h2⟩ := and3 h
      exact s_tup (of_decide_eq_true h1) (snd_Es a X sc so W _ ok tk h2)
  | .lst a, X, sc, so, W, x, ok, tk, h => by
    match x, h with
    | .List es p, h =>
      obtain ⟨h1, h2⟩ := and3 h
      exact s_lst (of_decide_eq_true h1) (snd_Es a X sc so W _ ok tk h2)
  | .bin o a b, X, sc, so, W, x, ok, tk, h => by
    match x, h with
    | .BinOp y op z p, h =>
      have h : (bopB o op && chkE k sc a y && chkE k sc b z) = true := h
      obtain ⟨h1, h3⟩ := and3 h
      obtain ⟨h1, h2⟩ := and3 h1
      exact s_bin (bop_of h1) (snd_E a X sc so W _ ok tk h2) (snd_E b X sc so W _ ok tk h3)
  | .neg a, X, sc, so, W, x, ok, tk, h => by
    match x, h with
    | .UnaryOp .USub y p, h =>
      have h : chkE k sc a y = true := h
      exact s_neg (snd_E a X sc so W _ ok tk h)
  | .cmp o a b, X, sc, so, W, x, ok, tk, h => by
    match x, h with
    | .Compare y [op] [z] p, h =>
      have h : (copB o op && plainX z && chkE k sc a y && chkE k sc b z) = true := h
      obtain ⟨h1, h4⟩ := and3 h
      obtain ⟨h1, h3⟩ := and3 h1
      obtain ⟨h1, h2⟩ := and3 h1
      exact s_cmp ok (cop_of h1) h2 (snd_E a X sc so W _ ok tk h3) (snd_E b X sc so W _ ok tk h4)
  | .chn o o' a b c, X, sc, so, W, x, ok, tk, h => by
    match x, h with
    | .Compare y [op, op'] [z, z'] p, h =>
      have h : (copB o op && copB o' op' && plainX z' && chkE k sc a y && chkE k sc b z && chkE k sc c z') = true := h
      obtain ⟨h1, h6⟩ := and3 h
      obtain ⟨h1, h5⟩ := and3 h1
      obtain ⟨h1, h4⟩ := and3 h1
      obtain ⟨h1, h3⟩ := and3 h1
      obtain ⟨h1, h2⟩ := and3 h1
      exact s_chn ok (cop_of h1) (cop_of h2) h3 (snd_E a X sc so W _ ok tk h4) (snd_E b X sc so W _ ok tk h5) (snd_E c X sc so W _ ok tk h6)
  | .and a b, X, sc, so, W, x, ok, tk, h => by
    match x, h with
    | .BoolOp .And (y :: [z]) p, h =>
      have h : (chkE k sc a y && chkE k sc b z) = true := h
      obtain ⟨h1, h2⟩ := and3 h
      exact PE_imp (pe_and (snd_E a X sc so W _ ok tk h1) (pe_one (snd_E b X sc so W _ ok tk h2))) fun σ H Q h => i_and h
    | .BoolOp .And (y :: z :: u :: r) p, h =>
      have h : (chkE k sc a y && chkE k sc b (.BoolOp .And (z :: u :: r) p)) = true := h
      obtain ⟨h1, h2⟩ := and3 h
      exact PE_imp (pe_and (snd_E a X sc so W _ ok tk h1) (snd_E b X sc so W _ ok tk h2)) fun σ H Q h => i_and h
  | .or a b, X, sc, so, W, x, ok, tk, h => by
    match x, h with
    | .BoolOp .Or (y :: [z]) p, h =>
      have h : (chkE k sc a y && chkE k sc b z) = true := h
      obtain ⟨h1, h2⟩ := and3 h
      exact PE_imp (pe_or (snd_E a X sc so W _ ok tk h1) (pe_one (snd_E b X sc so W _ ok tk h2))) fun σ H Q h => i_or h
    | .BoolOp .Or (y :: z :: u :: r) p, h =>
      have h : (chkE k sc a y && chkE k sc b (.BoolOp .Or (z :: u :: r) p)) = true := h
      obtain ⟨h1, h2⟩ := and3 h
      exact PE_imp (pe_or (snd_E a X sc so W _ ok tk h1) (snd_E b X sc so W _ ok tk h2)) fun σ H Q h => i_or h
  | .not a, X, sc, so, W, x, ok, tk, h => by
    match x, h with
    | .UnaryOp .Not y p, h =>
      have h : chkE k sc a y = true := h
      exact s_not (snd_E a X sc so W _ ok tk h)
  | .ite c a b, X, sc, so, W, x, ok, tk, h => by
    match x, h with
    | .IfExp y z u p, h =>
      have h : (tstX y && chkE k sc c y && chkE k sc a z && chkE k sc b u) = true := h
      obtain ⟨h1, h4⟩ := and3 h
      obtain ⟨h1, h3⟩ := and3 h1
      obtain ⟨h1, h2⟩ := and3 h1
      exact s_ite (snd_T c X sc so W _ ok tk h1 h2).2 (snd_E a X sc so W _ ok tk h3) (snd_E b X sc so W _ ok tk h4)
  | .call f a, X, sc, so, W, x, ok, tk, h => by
    match x, h with
    | .Call (.Name y p1) es [] p, h =>
      have h : ((y == Str.ofString f) && glB sc y && k.fs.contains f && es.all plainX && chkEs k sc a es) = true := h
      obtain ⟨h1, h5⟩ := and3 h
      obtain ⟨h1, h4⟩ := and3 h1
      obtain ⟨h1, h3⟩ := and3 h1
      obtain ⟨h1, h2⟩ := and3 h1
      refine s_call ok tk (by simpa using h1) h2 h3 h4 (fun e => ?_) (snd_Es a X sc so W _ ok tk h5)
      subst e
      cases a with
      | nil => rfl
      | cons _ _ => simp [chkEs] at h5
  | .bi f a, X, sc, so, W, x, ok, tk, h => by
    match x, h with
    | .Call (.Name y p1) es [] p, h =>
      have h : ((y == Str.ofString (biN f)) && glB sc y && !es.isEmpty && es.all plainX && chkEs k sc a es) = true := h
      obtain ⟨h1, h5⟩ := and3 h
      obtain ⟨h1, h4⟩ := and3 h1
      obtain ⟨h1, h3⟩ := and3 h1
      obtain ⟨g1, h2⟩ := and3 h1
      cases es with
      | nil => simp at h3
      | cons z ys => exact s_bi ok (by simpa using g1) h2 h4 (snd_Es a X sc so W _ ok tk h5)
  | .isi a t, X, sc, so, W, x, ok, tk, h => by
    match x, h with
    | .Call (.Name y p1) [z, .Name u p2] [] p, h =>
      have h : ((y == ("isinstance" : Str)) && glB sc y && (u == Str.ofString (tyN t)) && glB sc u && plainX z && chkE k sc a z) = true := h
      obtain ⟨h1, h6⟩ := and3 h
      obtain ⟨h1, h5⟩ := and3 h1
      obtain ⟨h1, h4⟩ := and3 h1
      obtain ⟨h1, h3⟩ := and3 h1
      obtain ⟨h1, h2⟩ := and3 h1
      exact s_isi ok (by simpa using h1) h2 (by simpa using h3) h4 h5 (snd_E a X sc so W _ ok tk h6)
  | .din neg a b, X, sc, so, W, x, ok, tk, h => by
    match x, h with
    | .Compare y [op] [z] p, h =>
      have h : (dinB neg op && plainX z && chkE k sc a y && chkE k sc b z) = true := h
      obtain ⟨h1, h4⟩ := and3 h
      obtain ⟨h1, h3⟩ := and3 h1
      obtain ⟨h1, h2⟩ := and3 h1
      rcases din_of h1 with ⟨rfl, rfl⟩ | ⟨rfl, rfl⟩
      · exact s_din ok h2 (snd_E a X sc so W _ ok tk h3) (snd_E b X sc so W _ ok tk h4)
      · exact s_dnin ok h2 (snd_E a X sc so W _ ok tk h3) (snd_E b X sc so W _ ok tk h4)
  | .dget b a, X, sc, so, W, x, ok, tk, h => by
    match x, h with
    | .Subscript y z p, h =>
      rw [chkE_dget] at h
      obtain ⟨h1, h3⟩ := and3 h
      obtain ⟨h1, h2⟩ := and3 h1
      exact s_dget ok (noSl_of h1) (snd_E a X sc so W _ ok tk h3) (snd_E b X sc so W _ ok tk h2)
  | .idx a i, X, sc, so, W, x, ok, tk, h => by
    match x, h with
    | .Subscript y z p, h =>
      rw [chkE_idx] at h
      obtain ⟨h1, h3⟩ := and3 h
      obtain ⟨h1, h2⟩ := and3 h1
      exact s_idx h1 (snd_E a X sc so W _ ok tk h2) (snd_E i X sc so W _ ok tk h3)
  | .sli a l hh, X, sc, so, W, x, ok, tk, h => by
    match x, h with
    | .Subscript y (.Slice u v none p2) p, h =>
      have h : (chkE k sc a y && chkO k sc l u && chkO k sc hh v) = true := h
      obtain ⟨h1, h3⟩ := and3 h
      obtain ⟨h1, h2⟩ := and3 h1
      exact s_sli (snd_E a X sc so W _ ok tk h1) (snd_O l X sc so W _ ok tk h2) (snd_O hh X sc so W _ ok tk h3)
  | .rev a, X, sc, so, W, x, ok, tk, h => by
    have h : oTst (dRev x) (fun z => chkE k sc a z) = true := h
    obtain ⟨z, e1, h⟩ := oTst_eq h
    obtain ⟨j, p1, p2, p3, p4, e2⟩ := dRev_eq e1
    subst e2
    exact s_rev (snd_E a X sc so W _ ok tk h)
  | .comp vs t it cc y, X, sc, so, W, x, ok, tk, h => by
    match x, h with
    | .ListComp e [⟨tg, iter, ifs, 0⟩] scope p, h =>
      have h : (blkC k.N sc scope (ownOf k.N vs) && decide ((ownOf k.N vs).map (·.2) = vs) && (t.slots.all fun i => vs.contains i) && plainX iter && chkI k sc it tg iter &&
        chkT k scope t tg && chkF k (relS scope sc) cc ifs && chkE k (relS scope sc) y e) = true := h
      obtain ⟨h1, h8⟩ := and3 h
      obtain ⟨h1, h7⟩ := and3 h1
      obtain ⟨h1, h6⟩ := and3 h1
      obtain ⟨h1, h5⟩ := and3 h1
      obtain ⟨h1, h4⟩ := and3 h1
      obtain ⟨h1, h3⟩ := and3 h1
      obtain ⟨h1, h2⟩ := and3 h1
      have hb : BlkOk X.N X.env.scope scope (ownOf k.N vs) := by
        rw [ok.N, ok.sc]
        exact blkOk_by h1
      have okb := fun s H C cl fp => ok.blk hb s H C cl fp
      refine s_comp ok tk hb (of_decide_eq_true h2) (fun i hi => ?_) h4 (snd_I it X sc so W tg iter ok tk h5) (fun s H C cl fp => s_tgt (okb s H C cl fp) h6)
        (fun s H C cl fp => snd_F cc _ _ _ W0 _ (okb s H C cl fp) takes0 h7) (fun s H C cl fp => snd_E y _ _ _ W0 _ (okb s H C cl fp) takes0 h8)
      have := List.all_eq_true.mp h3 i hi
      simpa using this
  | .lset vs t it y, X, sc, so, W, x, ok, tk, h => by
    have h : oTst (dLse x) (fun (u, e, tg, iter, scope) => (u == ("len" : Str)) && glB sc u && blkC k.N sc scope (ownOf k.N vs) && decide ((ownOf k.N vs).map (·.2) = vs) && (t.slots.all fun i => vs.contains i) && plainX iter && chkI k sc it tg iter &&
      chkT k scope t tg && chkE k (relS scope sc) y e) = true := h
    obtain ⟨⟨u, e, tg, iter, scope⟩, e1, h⟩ := oTst_eq h
    obtain ⟨p1, p2, p3, e2⟩ := dLse_eq e1
    subst e2
    obtain ⟨h1, h8⟩ := and3 h
    obtain ⟨h1, h7⟩ := and3 h1
    obtain ⟨h1, h6⟩ := and3 h1
    obtain ⟨h1, h5⟩ := and3 h1
    obtain ⟨h1, h4⟩ := and3 h1
    obtain ⟨h1, h3⟩ := and3 h1
    obtain ⟨h1, h2⟩ := and3 h1
    obtain ⟨h0, h1⟩ := and3 h1
    have hb : BlkOk X.N X.env.scope scope (ownOf k.N vs) := by
      rw [ok.N, ok.sc]
      exact blkOk_by h2
    have okb := fun s H C cl fp => ok.blk hb s H C cl fp
    refine s_lset ok tk (by simpa using h0) h1 hb (of_decide_eq_true h3) (fun i hi => ?_) h5 (snd_I it X sc so W tg iter ok tk h6) (fun s H C cl fp => s_tgt (okb s H C cl fp) h7)
      (fun s H C cl fp => snd_E y _ _ _ W0 _ (okb s H C cl fp) takes0 h8)
    have := List.all_eq_true.mp h4 i hi
    simpa using this
  | .join o a, X, sc, so, W, x, ok, tk, h => by
    match x, h with
    | .Call (.Attribute z m ap) [y] [] p, h =>
      have h : ((m == ("join" : Str)) && (ap.endLine == p.line) && conX z && plainX y && chkE k sc o z && chkE k sc a y) = true := h
      obtain ⟨h1, h6⟩ := and3 h
      obtain ⟨h1, h5⟩ := and3 h1
      obtain ⟨h1, h4⟩ := and3 h1
      obtain ⟨h1, h3⟩ := and3 h1
      obtain ⟨h1, h2⟩ := and3 h1
      exact s_join (by simpa using h1) h2 h3 h4 (snd_E o X sc so W _ ok tk h5) (snd_E a X sc so W _ ok tk h6)
  | .maxD mn a d, X, sc, so, W, x, ok, tk, h => by
    obtain ⟨⟨y, u, n, z⟩, e1, h⟩ := oTst_eq (show oTst (dMxD x) _ = true from h)
    obtain ⟨p1, p2, p3, rfl⟩ := dMxD_eq e1
    have h : ((y == mxN mn) && glB sc y && (n == ("default" : Str)) && plainX u && chkE k sc a u && chkE k sc d z) = true := h
    obtain ⟨h1, h6⟩ := and3 h
    obtain ⟨h1, h5⟩ := and3 h1
    obtain ⟨h1, h4⟩ := and3 h1
    obtain ⟨h1, h3⟩ := and3 h1
    obtain ⟨h1, h2⟩ := and3 h1
    exact s_maxD ok (by simpa using h1) h2 (by simpa using h3) h4 (snd_E a X sc so W _ ok tk h5) (snd_E d X sc so W _ ok tk h6)
  | .callX fs i a, X, sc, so, W, x, ok, tk, h => by
    obtain ⟨⟨ns, ix, es⟩, e1, h⟩ := oTst_eq (show oTst (dClX x) _ = true from h)
    obtain ⟨p1, p2, p3, rfl⟩ := dClX_eq e1
    have h : (decide (fs.length ≤ 100) && fnsB k sc fs ns && plainX ix && !es.isEmpty && es.all plainX && chkE k sc i ix && chkEs k sc a es) = true := h
    obtain ⟨h1, h7⟩ := and3 h
    obtain ⟨h1, h6⟩ := and3 h1
    obtain ⟨h1, h5⟩ := and3 h1
    obtain ⟨h1, h4⟩ := and3 h1
    obtain ⟨h1, h3⟩ := and3 h1
    obtain ⟨h1, h2⟩ := and3 h1
    exact s_callX ok tk (of_decide_eq_true h1) h2 h3 (by rw [Bool.not_eq_true'] at h4; exact h4) h5 (snd_E i X sc so W _ ok tk h6) (snd_Es a X sc so W _ ok tk h7)
/-- a test; of and, or whatever its whole is -/
theorem snd_T : ∀ (e : E) (X : Cx) (sc so : Scope) (W : WX) (x : Expr), XOk X O k sc so → Takes X W → tstX x = true → chkE k sc e x = true → (isBoolOp x = true → PW X x (tB' (fm X O lo W) e)) ∧ PT X x (tB' (fm X O lo W) e)
  | .not a, X, sc, so, W, x, ok, tk, ht, h => by
    match x, h, ht with
    | .UnaryOp .Not y p, h, ht =>
      have h : chkE k sc a y = true := h
      have ht : tstX y = true := ht
      exact ⟨fun hb => (by cases hb), t_not (snd_T a X sc so W _ ok tk ht h).2⟩
  | .and a b, X, sc, so, W, x, ok, tk, ht, h => by
    have hw : PW X x (tB' (fm X O lo W) (.and a b)) := by
      match x, h, ht with
      | .BoolOp .And (y :: [z]) p, h, ht =>
        have h : (chkE k sc a y && chkE k sc b z) = true := h
        have ht : (tstX y && (tstX z && true)) = true := ht
        obtain ⟨h1, h2⟩ := and3 h
        obtain ⟨t1, t2⟩ := and3 ht
        obtain ⟨t2, _⟩ := and3 t2
        have q := pw_and (pos := p) (snd_T a X sc so W _ ok tk t1 h1).2 (pw_and1 (snd_T b X sc so W _ ok tk t2 h2).2)
        exact ⟨fun wh pins s σ H Q I h => q.run wh pins s σ H Q I (j_and h)⟩
      | .BoolOp .And (y :: z :: u :: r) p, h, ht =>
        have h : (chkE k sc a y && chkE k sc b (.BoolOp .And (z :: u :: r) p)) = true := h
        have ht : (tstX y && tstX (.BoolOp .And (z :: u :: r) p)) = true := ht
        obtain ⟨h1, h2⟩ := and3 h
        obtain ⟨t1, t2⟩ := and3 ht
        have q := pw_and (snd_T a X sc so W _ ok tk t1 h1).2 ((snd_T b X sc so W _ ok tk t2 h2).1 rfl)
        exact ⟨fun wh pins s σ H Q I h => q.run wh pins s σ H Q I (j_and h)⟩
    exact ⟨fun _ => hw, hw.pt⟩
  | .or a b, X, sc, so, W, x, ok, tk, ht, h => by
    have hw : PW X x (tB' (fm X O lo W) (.or a b)) := by
      match x, h, ht with
      | .BoolOp .Or (y :: [z]) p, h, ht =>
        have h : (chkE k sc a y && chkE k sc b z) = true := h
        have ht : (tstX y && (tstX z && true)) = true := ht
        obtain ⟨h1, h2⟩ := and3 h
        obtain ⟨t1, t2⟩ := and3 ht
        obtain ⟨t2, _⟩ := and3 t2
        have q := pw_or (pos := p) (snd_T a X sc so W _ ok tk t1 h1).2 (pw_or1 (snd_T b X sc so W _ ok tk t2 h2).2)
        exact ⟨fun wh pins s σ H Q I h => q.run wh pins s σ H Q I (j_or h)⟩
      | .BoolOp .Or (y :: z :: u :: r) p, h, ht =>
        have h : (chkE k sc a y && chkE k sc b (.BoolOp .Or (z :: u :: r) p)) = true := h
        have ht : (tstX y && tstX (.BoolOp .Or (z :: u :: r) p)) = true := ht
        obtain ⟨h1, h2⟩ := and3 h
        obtain ⟨t1, t2⟩ := and3 ht
        have q := pw_or (snd_T a X sc so W _ ok tk t1 h1).2 ((snd_T b X sc so W _ ok tk t2 h2).1 rfl)
        exact ⟨fun wh pins s σ H Q I h => q.run wh pins s σ H Q I (j_or h)⟩
    exact ⟨fun _ => hw, hw.pt⟩
  | .cmp o a b, X, sc, so, W, x, ok, tk, ht, h => by
    match x, h with
    | .Compare y [op] [z] p, h =>
      have h : (copB o op && plainX z && chkE k sc a y && chkE k sc b z) = true := h
      obtain ⟨h1, h4⟩ := and3 h
      obtain ⟨h1, h3⟩ := and3 h1
      obtain ⟨h1, h2⟩ := and3 h1
      exact ⟨fun hb => (by cases hb), t_cmp ok (cop_of h1) h2 (snd_E a X sc so W _ ok tk h3) (snd_E b X sc so W _ ok tk h4)⟩
  | .chn o o' a b c, X, sc, so, W, x, ok, tk, ht, h => by
    match x, h with
    | .Compare y [op, op'] [z, z'] p, h =>
      have h : (copB o op && copB o' op' && plainX z' && chkE k sc a y && chkE k sc b z && chkE k sc c z') = true := h
      obtain ⟨h1, h6⟩ := and3 h
      obtain ⟨h1, h5⟩ := and3 h1
      obtain ⟨h1, h4⟩ := and3 h1
      obtain ⟨h1, h3⟩ := and3 h1
      obtain ⟨h1, h2⟩ := and3 h1
      exact ⟨fun hb => (by cases hb), t_chn ok (cop_of h1) (cop_of h2) h3 (snd_E a X sc so W _ ok tk h4) (snd_E b X sc so W _ ok tk h5) (snd_E c X sc so W _ ok tk h6)⟩
  | .var i, X, sc, so, W, x, ok, tk, ht, h => by
    rcases tst_cases ht with v | ⟨y, p, e⟩ | ⟨y, z, p, e⟩ | ⟨y, z, u, p, e⟩
    · exact ⟨fun hb => (by rw [val_nob v] at hb; cases hb), t_val (snd_E (.var i) X sc so W _ ok tk h) v⟩
    all_goals (subst e; exact absurd (show false = true from h) Bool.false_ne_true)
  | .con c, X, sc, so, W, x, ok, tk, ht, h => by
    rcases tst_cases ht with v | ⟨y, p, e⟩ | ⟨y, z, p, e⟩ | ⟨y, z, u, p, e⟩
    · exact ⟨fun hb => (by rw [val_nob v] at hb; cases hb), t_val (snd_E (.con c) X sc so W _ ok tk h) v⟩
    all_goals (subst e; exact absurd (show false = true from h) Bool.false_ne_true)
  | .glo n c, X, sc, so, W, x, ok, tk, ht, h => by
    rcases tst_cases ht with v | ⟨y, p, e⟩ | ⟨y, z, p, e⟩ | ⟨y, z, u, p, e⟩
    · exact ⟨fun hb => (by rw [val_nob v] at hb; cases hb), t_val (snd_E (.glo n c) X sc so W _ ok tk h) v⟩
    all_goals (subst e; exact absurd (show false = true from h) Bool.false_ne_true)
  | .call f a, X, sc, so, W, x, ok, tk, ht, h => by
    rcases tst_cases ht with v | ⟨y, p, e⟩ | ⟨y, z, p, e⟩ | ⟨y, z, u, p, e⟩
    · exact ⟨fun hb => (by rw [val_nob v] at hb; cases hb), t_val (snd_E (.call f a) X sc so W _ ok tk h) v⟩
    all_goals (subst e; exact absurd (show false = true from h) Bool.false_ne_true)
  | .bi f a, X, sc, so, W, x, ok, tk, ht, h => by
    rcases tst_cases ht with v | ⟨y, p, e⟩ | ⟨y, z, p, e⟩ | ⟨y, z, u, p, e⟩
    · exact ⟨fun hb => (by rw [val_nob v] at hb; cases hb), t_val (snd_E (.bi f a) X sc so W _ ok tk h) v⟩
    all_goals (subst e; exact absurd (show false = true from h) Bool.false_ne_true)
  | .isi a t, X, sc, so, W, x, ok, tk, ht, h => by
    rcases tst_cases ht with v | ⟨y, p, e⟩ | ⟨y, z, p, e⟩ | ⟨y, z, u, p, e⟩
    · exact ⟨fun hb => (by rw [val_nob v] at hb; cases hb), t_val (snd_E (.isi a t) X sc so W _ ok tk h) v⟩
    all_goals (subst e; exact absurd (show false = true from h) Bool.false_ne_true)
  | .din neg a b, X, sc, so, W, x, ok, tk, ht, h => by
    match x, h with
    | .Compare y [op] [z] p, h =>
      have h : (dinB neg op && plainX z && chkE k sc a y && chkE k sc b z) = true := h
      obtain ⟨h1, h4⟩ := and3 h
      obtain ⟨h1, h3⟩ := and3 h1
      obtain ⟨h1, h2⟩ := and3 h1
      rcases din_of h1 with ⟨rfl, rfl⟩ | ⟨rfl, rfl⟩
      · exact ⟨fun hb => (by cases hb), t_din ok h2 (snd_E a X sc so W _ ok tk h3) (snd_E b X sc so W _ ok tk h4)⟩
      · exact ⟨fun hb => (by cases hb), t_dnin ok h2 (snd_E a X sc so W _ ok tk h3) (snd_E b X sc so W _ ok tk h4)⟩
  | .dget b a, X, sc, so, W, x, ok, tk, ht, h => by
    rcases tst_cases ht with v | ⟨y, p, e⟩ | ⟨y, z, p, e⟩ | ⟨y, z, u, p, e⟩
    · exact ⟨fun hb => (by rw [val_nob v] at hb; cases hb), t_val (snd_E (.dget b a) X sc so W _ ok tk h) v⟩
    all_goals (subst e; exact absurd (show false = true from h) Bool.false_ne_true)
  | .idx a i, X, sc, so, W, x, ok, tk, ht, h => by
    rcases tst_cases ht with v | ⟨y, p, e⟩ | ⟨y, z, p, e⟩ | ⟨y, z, u, p, e⟩
    · exact ⟨fun hb => (by rw [val_nob v] at hb; cases hb), t_val (snd_E (.idx a i) X sc so W _ ok tk h) v⟩
    all_goals (subst e; exact absurd (show false = true from h) Bool.false_ne_true)
  | .sli a l hh, X, sc, so, W, x, ok, tk, ht, h => by
    rcases tst_cases ht with v | ⟨y, p, e⟩ | ⟨y, z, p, e⟩ | ⟨y, z, u, p, e⟩
    · exact ⟨fun hb => (by rw [val_nob v] at hb; cases hb), t_val (snd_E (.sli a l hh) X sc so W _ ok tk h) v⟩
    all_goals (subst e; exact absurd (show false = true from h) Bool.false_ne_true)
  | .join o a, X, sc, so, W, x, ok, tk, ht, h => by
    rcases tst_cases ht with v | ⟨y, p, e⟩ | ⟨y, z, p, e⟩ | ⟨y, z, u, p, e⟩
    · exact ⟨fun hb => (by rw [val_nob v] at hb; cases hb), t_val (snd_E (.join o a) X sc so W _ ok tk h) v⟩
    all_goals (subst e; exact absurd (show false = true from h) Bool.false_ne_true)
  | .tup a, X, sc, so, W, x, ok, tk, ht, h => by
    rcases tst_cases ht with v | ⟨y, p, e⟩ | ⟨y, z, p, e⟩ | ⟨y, z, u, p, e⟩
    · exfalso
      cases x <;> first | exact absurd (show false = true from v) Bool.false_ne_true | exact absurd (show false = true from h) Bool.false_ne_true
    all_goals (subst e; exact absurd (show false = true from h) Bool.false_ne_true)
  | .lst a, X, sc, so, W, x, ok, tk, ht, h => by
    rcases tst_cases ht with v | ⟨y, p, e⟩ | ⟨y, z, p, e⟩ | ⟨y, z, u, p, e⟩
    · exfalso
      cases x <;> first | exact absurd (show false = true from v) Bool.false_ne_true | exact absurd (show false = true from h) Bool.false_ne_true
    all_goals (subst e; exact absurd (show false = true from h) Bool.false_ne_true)
  | .bin o a b, X, sc, so, W, x, ok, tk, ht, h => by
    rcases tst_cases ht with v | ⟨y, p, e⟩ | ⟨y, z, p, e⟩ | ⟨y, z, u, p, e⟩
    · exfalso
      cases x <;> first | exact absurd (show false = true from v) Bool.false_ne_true | exact absurd (show false = true from h) Bool.false_ne_true
    all_goals (subst e; exact absurd (show false = true from h) Bool.false_ne_true)
  | .neg a, X, sc, so, W, x, ok, tk, ht, h => by
    rcases tst_cases ht with v | ⟨y, p, e⟩ | ⟨y, z, p, e⟩ | ⟨y, z, u, p, e⟩
    · exfalso
      cases x <;> first | exact absurd (show false = true from v) Bool.false_ne_true | exact absurd (show false = true from h) Bool.false_ne_true
    all_goals (subst e; exact absurd (show false = true from h) Bool.false_ne_true)
  | .ite c a b, X, sc, so, W, x, ok, tk, ht, h => by
    rcases tst_cases ht with v | ⟨y, p, e⟩ | ⟨y, z, p, e⟩ | ⟨y, z, u, p, e⟩
    · exfalso
      cases x <;> first | exact absurd (show false = true from v) Bool.false_ne_true | exact absurd (show false = true from h) Bool.false_ne_true
    all_goals (subst e; exact absurd (show false = true from h) Bool.false_ne_true)
  | .rev a, X, sc, so, W, x, ok, tk, ht, h => by
    rcases tst_cases ht with v | ⟨y, p, e⟩ | ⟨y, z, p, e⟩ | ⟨y, z, u, p, e⟩
    · exact ⟨fun hb => (by rw [val_nob v] at hb; cases hb), t_val (snd_E (.rev a) X sc so W _ ok tk h) v⟩
    all_goals (subst e; exact absurd (show false = true from h) Bool.false_ne_true)
  | .comp vs t it cc y, X, sc, so, W, x, ok, tk, ht, h => by
    rcases tst_cases ht with v | ⟨y, p, e⟩ | ⟨y, z, p, e⟩ | ⟨y, z, u, p, e⟩
    · exfalso
      cases x <;> first | exact absurd (show false = true from v) Bool.false_ne_true | exact absurd (show false = true from h) Bool.false_ne_true
    all_goals (subst e; exact absurd (show false = true from h) Bool.false_ne_true)
  | .lset vs t it y, X, sc, so, W, x, ok, tk, ht, h => by
    rcases tst_cases ht with v | ⟨y, p, e⟩ | ⟨y, z, p, e⟩ | ⟨y, z, u, p, e⟩
    · exact ⟨fun hb => (by rw [val_nob v] at hb; cases hb), t_val (snd_E (.lset vs t it y) X sc so W _ ok tk h) v⟩
    all_goals (subst e; exact absurd (show false = true from h) Bool.false_ne_true)
  | .maxD mn a d, X, sc, so, W, x, ok, tk, ht, h => by
    rcases tst_cases ht with v | ⟨y, p, e⟩ | ⟨y, z, p, e⟩ | ⟨y, z, u, p, e⟩
    · exact ⟨fun hb => (by rw [val_nob v] at hb; cases hb), t_val (snd_E (.maxD mn a d) X sc so W _ ok tk h) v⟩
    all_goals (subst e; exact absurd (show false = true from h) Bool.false_ne_true)
  | .callX fs i a, X, sc, so, W, x, ok, tk, ht, h => by
    rcases tst_cases ht with v | ⟨y, p, e⟩ | ⟨y, z, p, e⟩ | ⟨y, z, u, p, e⟩
    · exact ⟨fun hb => (by rw [val_nob v] at hb; cases hb), t_val (snd_E (.callX fs i a) X sc so W _ ok tk h) v⟩
    all_goals (subst e; exact absurd (show false = true from h) Bool.false_ne_true)
theorem snd_Es : ∀ (e : Es) (X : Cx) (sc so : Scope) (W : WX) (x : List Expr), XOk X O k sc so → Takes X W → chkEs k sc e x = true → PA X x (tEs (fm X O lo W) e)
  | .nil, X, sc, so, W, x, ok, tk, h => by
    cases x with
    | nil => exact s_nil
    | cons _ _ => simp [chkEs] at h
  | .cons a b, X, sc, so, W, x, ok, tk, h => by
    cases x with
    | nil => simp [chkEs] at h
    | cons y ys =>
      simp only [chkEs] at h
      obtain ⟨h1, h3⟩ := and3 h
      obtain ⟨h1, h2⟩ := and3 h1
      exact s_cons h1 (snd_E a X sc so W _ ok tk h2) (snd_Es b X sc so W _ ok tk h3)
theorem snd_O : ∀ (e : Option E) (X : Cx) (sc so : Scope) (W : WX) (x : Option Expr), XOk X O k sc so → Takes X W → chkO k sc e x = true → PO X x (tEo (fm X O lo W) e)
  | none, X, sc, so, W, x, ok, tk, h => by
    cases x with
    | none => exact o_none
    | some _ => simp [chkO] at h
  | some a, X, sc, so, W, x, ok, tk, h => by
    cases x with
    | none => simp [chkO] at h
    | some y => exact o_some (snd_E a X sc so W _ ok tk (by simpa [chkO] using h))
theorem snd_F : ∀ (e : Option E) (X : Cx) (sc so : Scope) (W : WX) (x : List Expr), XOk X O k sc so → Takes X W → chkF k sc e x = true → PTs X x (tTc (fm X O lo W) e)
  | none, X, sc, so, W, x, ok, tk, h => by
    cases x with
    | nil => exact c_none
    | cons _ _ => simp [chkF] at h
  | some a, X, sc, so, W, x, ok, tk, h => by
    match x, h with
    | [y], h =>
      simp only [chkF] at h
      obtain ⟨h1, h2⟩ := and3 h
      exact c_some (snd_T a X sc so W _ ok tk h1 h2).2
theorem snd_I : ∀ (e : I) (X : Cx) (sc so : Scope) (W : WX) (tg x : Expr), XOk X O k sc so → Takes X W → chkI k sc e tg x = true → PI X tg x (tI (fm X O lo W) e)
  | .of a, X, sc, so, W, tg, x, ok, tk, h => by
    simp only [chkI] at h
    obtain ⟨h1, h2⟩ := and3 h
    exact s_of (snd_E a X sc so W _ ok tk h2)
  | .range1 a, X, sc, so, W, tg, x, ok, tk, h => by
    match x, h with
    | .Call (.Name y p1) [z] [] p, h =>
      have h : ((y == ("range" : Str)) && glB sc y && chkEs k sc a [z]) = true := h
      obtain ⟨h1, h3⟩ := and3 h
      obtain ⟨h1, h2⟩ := and3 h1
      have hz : plainX z = true := by
        cases a with
        | nil => simp [chkEs] at h3
        | cons a b =>
          simp only [chkEs] at h3
          exact (and3 (and3 h3).1).1
      exact s_range1 ok (by simpa using h1) h2 hz (snd_Es a X sc so W _ ok tk h3)
  | .range2 a, X, sc, so, W, tg, x, ok, tk, h => by
    match x, h with
    | .Call (.Name y p1) [z, z'] [] p, h =>
      have h : ((y == ("range" : Str)) && glB sc y && chkEs k sc a [z, z']) = true := h
      obtain ⟨h1, h3⟩ := and3 h
      obtain ⟨h1, h2⟩ := and3 h1
      have hz : plainX z = true ∧ plainX z' = true := by
        cases a with
        | nil => simp [chkEs] at h3
        | cons a b =>
          simp only [chkEs] at h3
          obtain ⟨q1, q3⟩ := and3 h3
          cases b with
          | nil => simp [chkEs] at q3
          | cons b c =>
            simp only [chkEs] at q3
            exact ⟨(and3 q1).1, (and3 (and3 q3).1).1⟩
      exact s_range2 ok (by simpa using h1) h2 hz.1 hz.2 (snd_Es a X sc so W _ ok tk h3)
  | .enum a, X, sc, so, W, tg, x, ok, tk, h => by
    match tg, x, h with
    | .Tuple ts kk tp, .Call (.Name y p1) [z] [] p, h =>
      have h : ((y == ("enumerate" : Str)) && glB sc y && chkEs k sc a [z]) = true := h
      obtain ⟨h1, h3⟩ := and3 h
      obtain ⟨h1, h2⟩ := and3 h1
      have hz : plainX z = true := by
        cases a with
        | nil => simp [chkEs] at h3
        | cons a b =>
          simp only [chkEs] at h3
          obtain ⟨q1, q3⟩ := and3 h3
          exact (and3 q1).1
      exact s_enum ok (by simpa using h1) h2 hz (snd_Es a X sc so W _ ok tk h3)
  | .enumZ a, X, sc, so, W, tg, x, ok, tk, h => by
    match tg, x, h with
    | .Tuple ts kk tp, .Call (.Name y p1) [.Call (.Name y2 p2) [z, z'] [] p3] [] p, h =>
      have h : ((y == ("enumerate" : Str)) && glB sc y && (y2 == ("zip" : Str)) && glB sc y2 && chkEs k sc a [z, z']) = true := h
      obtain ⟨h1, h5⟩ := and3 h
      obtain ⟨h1, h4⟩ := and3 h1
      obtain ⟨h1, h3⟩ := and3 h1
      obtain ⟨h1, h2⟩ := and3 h1
      have hz : plainX z = true ∧ plainX z' = true := by
        cases a with
        | nil => simp [chkEs] at h5
        | cons a b =>
          simp only [chkEs] at h5
          obtain ⟨q1, q3⟩ := and3 h5
          cases b with
          | nil => simp [chkEs] at q3
          | cons b c =>
            simp only [chkEs] at q3
            exact ⟨(and3 q1).1, (and3 (and3 q3).1).1⟩
      exact s_enumZ ok (by simpa using h1) h2 (by simpa using h3) h4 hz.1 hz.2 (snd_Es a X sc so W _ ok tk h5)
  | .zip a, X, sc, so, W, tg, x, ok, tk, h => by
    match tg, x, h with
    | .Tuple ts kk tp, .Call (.Name y p1) [z, z'] [] p, h =>
      have h : ((y == ("zip" : Str)) && glB sc y && chkEs k sc a [z, z']) = true := h
      obtain ⟨h1, h3⟩ := and3 h
      obtain ⟨h1, h2⟩ := and3 h1
      have hz : plainX z = true ∧ plainX z' = true := by
        cases a with
        | nil => simp [chkEs] at h3
        | cons a b =>
          simp only [chkEs] at h3
          obtain ⟨q1, q3⟩ := and3 h3
          cases b with
          | nil => simp [chkEs] at q3
          | cons b c =>
            simp only [chkEs] at q3
            exact ⟨(and3 q1).1, (and3 (and3 q3).1).1⟩
      exact s_zip ok (by simpa using h1) h2 hz.1 hz.2 (snd_Es a X sc so W _ ok tk h3)
end
end
end Rf
namespace Rf
open PySem PySem.Spec PyProof.Rows L2

/-- a frame at its entry -/
structure Fr0 where
  H : Hp
  S : Sto
  Y : List Addr
/-- a frame in a statement: P what stands and will stand, Z what is data for good, A how the store's addresses begin -/
structure Sv (F : Fm) (B : Fr0) (P : Addr → HO → Prop) (Z : Addr → Prop) (A : List Addr) (σ : L2.St) (H : Hp) (env : Env) (ρ : List Addr) (S : Sto) : Prop where
  fs : Fs F σ H env ρ S B.Y
  lo : F.lo = B.S.length
  same : Same B.H H
  own : ∀ n a, F.lo ≤ n → ρ[n]? = some a → B.H a = none
  pre : ∀ n, n < F.lo → S[n]? = B.S[n]?
  pin : ∀ b o, P b o → H b = some o ∧ ∀ (n : Nat) u, F.lo ≤ n → ρ[n]? = some b → S[n]? = some u → u.isLst = false
  dat : ∀ b, Z b → H b ≠ none ∧ ¬ mu ρ S B.Y b
  beg : ∀ (n : Nat) a, A[n]? = some a → ρ[n]? = some a
section
variable {F : Fm} {B : Fr0} {P P' : Addr → HO → Prop} {Z Z' : Addr → Prop} {A A' : List Addr} {σ σ1 : L2.St} {H H1 : Hp} {env : Env} {ρ : List Addr} {S S1 : Sto}
theorem Sv.step (s : Sv F B P Z A σ H env ρ S) (st : Ste F.lo H S H1 S1) (c : Cf F.ω F.K H1 ρ S1 B.Y) : Sv F B P Z A σ H1 env ρ S1 := by
  refine ⟨s.fs.step st c, s.lo, s.same.trans st.same, s.own, fun n hn => ?_, fun b o h => ?_, fun b h => ?_, s.beg⟩
  · rcases st.frz n with e | ⟨l, _⟩
    · rw [e]; exact s.pre n hn
    · omega
  · obtain ⟨h1, h2⟩ := s.pin b o h
    refine ⟨st.same _ _ h1, fun n u hn e1 e2 => ?_⟩
    rcases st.frz n with e | ⟨_, xs, _, e⟩
    · exact h2 n u hn e1 (by rw [← e]; exact e2)
    · rw [e] at e2; cases e2; rfl
  · obtain ⟨h1, h2⟩ := s.dat b h
    refine ⟨fun z => ?_, fun z => h2 (st.mu z)⟩
    cases e : H b with
    | none => exact h1 e
    | some u => rw [st.same _ _ e] at z; cases z
theorem Sv.set (s : Sv F B P Z A σ H env ρ S) {i : Nat} {v : V} {w : Wd} (r : Rw F.K H ρ (mu ρ S B.Y) v w) : Sv F B P Z A (σ.set i (some v)) H (env.set i (some w)) ρ S :=
  ⟨s.fs.set r, s.lo, s.same, s.own, s.pre, s.pin, s.dat, s.beg⟩
theorem Sv.toEnv (s : Sv F B P Z A σ H env ρ S) {σ' : L2.St} {env' : Env} (f : Fs F σ' H env' ρ S B.Y) : Sv F B P Z A σ' H env' ρ S := ⟨f, s.lo, s.same, s.own, s.pre, s.pin, s.dat, s.beg⟩
theorem Sv.weak (s : Sv F B P' Z' A' σ H env ρ S) (hP : ∀ b o, P b o → P' b o) (hZ : ∀ b, Z b → Z' b) (hA : ∀ (n : Nat) a, A[n]? = some a → A'[n]? = some a) : Sv F B P Z A σ H env ρ S :=
  ⟨s.fs, s.lo, s.same, s.own, s.pre, fun b o h => s.pin b o (hP b o h), fun b h => s.dat b (hZ b h), fun n a h => s.beg n a (hA n a h)⟩
end
def PoS (F : Fm) (B : Fr0) (P : Addr → HO → Prop) (Z : Addr → Prop) (A : List Addr) (D : Ends) (r : Rs) : Prop := match r with
  | .no => False
  | .ex c env S => ∀ σ H ρ C, Sv F B P Z A σ H env ρ S → F.mg (Str.ofString c) = some (.ref C) → F.W (.ref C) none σ H
  | .nx env S => ∀ σ H ρ, Sv F B P Z A σ H env ρ S → D.nx σ H
  | .rt w S => ∀ v σ H ρ env, Sv F B P Z A σ H env ρ S → Rw F.K H ρ (mu ρ S B.Y) v w → D.rt v H
  | .bk env S => ∀ σ H ρ, Sv F B P Z A σ H env ρ S → D.bk σ H
  | .ct env S => ∀ σ H ρ, Sv F B P Z A σ H env ρ S → D.ct σ H
def tS (F : Fm) (B : Fr0) (P : Addr → HO → Prop) (Z : Addr → Prop) (A : List Addr) (fu : Nat) (c : C) : TS := fun D σ H => ∃ env ρ S, Sv F B P Z A σ H env ρ S ∧ PoS F B P Z A D (exC F.O fu F.lo c env S)
def tSs (F : Fm) (B : Fr0) (P : Addr → HO → Prop) (Z : Addr → Prop) (A : List Addr) (fu : Nat) (c : Cs) : TS := fun D σ H => ∃ env ρ S, Sv F B P Z A σ H env ρ S ∧ PoS F B P Z A D (exCs F.O fu F.lo c env S)
section
variable {F : Fm} {B : Fr0} {P P' : Addr → HO → Prop} {Z Z' : Addr → Prop} {A A' : List Addr} {σ σ1 : L2.St} {H H1 : Hp} {env : Env} {ρ : List Addr} {S S1 : Sto} {D : Ends}
theorem PoS.rs {α β : Type} {R : Hp → Sto → β → α → Prop} {r : Res α} {f : α → Sto → Rs} {Q : β → Hp → Prop} (sv : Sv F B P Z A σ H env ρ S) (h : PoS F B P Z A D (r.rs env f))
    (k : ∀ a S1 b H1, r = .ok a S1 → Ste F.lo H S H1 S1 → Cf F.ω F.K H1 ρ S1 B.Y → R H1 S1 b a → Sv F B P Z A σ H1 env ρ S1 → PoS F B P Z A D (f a S1) → Q b H1) : Po F ρ B.Y σ R H S r Q := by
  cases r with
  | no => exact h
  | ex c S' => exact fun H' C st c m => h σ H' ρ C (sv.step st c) m
  | ok a S' => exact fun b H' st c rr => k a S' b H' rfl st c rr (sv.step st c) h
theorem PoS.opt {α : Type} {o : Option α} {f : α → Rs} (h : PoS F B P Z A D (optRs o f)) : ∃ a, o = some a ∧ PoS F B P Z A D (f a) := by
  cases o with
  | none => exact h.elim
  | some a => exact ⟨a, rfl, h⟩
end
section
variable {X : Cx} {O : Orc} {k : Ck} {sc : Scope} {lo fu : Nat} {W : WX} {B : Fr0} {P : Addr → HO → Prop} {Z : Addr → Prop} {A : List Addr} {a b c tg : Expr} {ea eb ec : E} {pos : Pos}
theorem q_nil : PSs X [] (tSs (fm X O lo W) B P Z A fu .nil) := PSs_imp pss_nil fun D σ H ⟨env, ρ, S, sv, h⟩ => h σ H ρ sv
theorem q_cons {s : Stmt} {ss : List Stmt} {ca : C} {cb : Cs} (h1 : PS X s (tS (fm X O lo W) B P Z A fu ca)) (h2 : PSs X ss (tSs (fm X O lo W) B P Z A fu cb)) : PSs X (s :: ss) (tSs (fm X O lo W) B P Z A fu (.cons ca cb)) := by
  refine PSs_imp (pss_cons h1 h2) fun D σ H ⟨env, ρ, S, sv, h⟩ => ⟨env, ρ, S, sv, ?_⟩
  have h : PoS (fm X O lo W) B P Z A D ((exC O fu lo ca env S).then fun env S => exCs O fu lo cb env S) := h
  show PoS (fm X O lo W) B P Z A _ (exC O fu lo ca env S)
  cases e : exC O fu lo ca env S with
  | no => rw [e] at h; exact h
  | ex c env' S' => rw [e] at h; exact h
  | nx env' S' => rw [e] at h; exact fun σ' H' ρ' sv' => ⟨env', ρ', S', sv', h⟩
  | rt w S' => rw [e] at h; exact h
  | bk env' S' => rw [e] at h; exact h
  | ct env' S' => rw [e] at h; exact h
theorem q_set {i : Nat} {x : Str} {px : Pos} (ok : XOk X O k sc sc) (h1 : k.N[i]? = some x) (h2 : locB sc x = true) (hs : swapsWith a (some (.Name x px)) pos.line X.env = pure false) (ha : PE X a (tE (fm X O lo W) ea)) :
    PS X (.Assign [.Name x px] a pos) (tS (fm X O lo W) B P Z A fu (.set i ea)) := by
  obtain ⟨l1, l2⟩ := ok.st x h2
  refine PS_imp (ps_set (i := i) ok.nd (by rw [ok.N]; exact h1) l1 ha hs l2) fun D σ H ⟨env, ρ, S, sv, h⟩ => ?_
  simp only [exC] at h
  exact ⟨env, ρ, S, B.Y, sv.fs, PoS.rs sv h fun w S1 v H1 _ _ cf rw sv1 h1 => h1 _ H1 ρ (sv1.set rw)⟩
theorem q_ret (ha : PE X a (tE (fm X O lo W) ea)) : PS X (.Return (some a) pos) (tS (fm X O lo W) B P Z A fu (.ret ea)) := by
  refine PS_imp (ps_ret ha) fun D σ H ⟨env, ρ, S, sv, h⟩ => ?_
  simp only [exC] at h
  exact ⟨env, ρ, S, B.Y, sv.fs, PoS.rs sv h fun w S1 v H1 _ _ cf rw sv1 h1 => h1 v σ H1 ρ env sv1 rw⟩
theorem q_xpr (hs : swapsWith a none pos.line X.env = pure false) (ha : PE X a (tE (fm X O lo W) ea)) : PS X (.Expr a pos) (tS (fm X O lo W) B P Z A fu (.xpr ea)) := by
  refine PS_imp (ps_expr ha hs) fun D σ H ⟨env, ρ, S, sv, h⟩ => ?_
  simp only [exC] at h
  exact ⟨env, ρ, S, B.Y, sv.fs, PoS.rs sv h fun w S1 v H1 _ _ cf rw sv1 h1 => h1 σ H1 ρ sv1⟩
theorem q_ife {ss ts : List Stmt} {ca cb : Cs} (hc : PT X c (tB' (fm X O lo W) ec)) (ha : PSs X ss (tSs (fm X O lo W) B P Z A fu ca)) (hb : PSs X ts (tSs (fm X O lo W) B P Z A fu cb)) : PS X (.If c ss ts pos) (tS (fm X O lo W) B P Z A fu (.ife ec ca cb)) := by
  refine PS_imp (ps_if hc ha hb) fun D σ H ⟨env, ρ, S, sv, h⟩ => ?_
  simp only [exC] at h
  refine ⟨env, ρ, S, B.Y, sv.fs, PoS.rs sv h fun kk S1 v H1 _ _ cf rw sv1 h1 => ?_⟩
  have rw : v = kk := rw
  subst rw
  cases v with
  | true => rw [if_pos rfl] at h1 ⊢; exact ⟨env, ρ, S1, sv1, h1⟩
  | false => rw [if_neg (by simp)] at h1 ⊢; exact ⟨env, ρ, S1, sv1, h1⟩
theorem q_unp {is : List Nat} {ts : List Expr} {kk : Nat} {tp : Pos} (ok : XOk X O k sc sc) (ht : tgtV k sc is ts = true) (hs : swapsWithSole [.Tuple ts kk tp] a pos.line X.env = pure false) (hw : swappedStores [.Tuple ts kk tp] a X.env = pure none) (ha : PE X a (tE (fm X O lo W) ea)) :
    PS X (.Assign [.Tuple ts kk tp] a pos) (tS (fm X O lo W) B P Z A fu (.unp is ea)) := by
  refine PS_imp (ps_asg ha (s_tgt (t := .tup is) (lo := lo) (W := W) ok ht) hs hw) fun D σ H ⟨env, ρ, S, sv, h⟩ => ?_
  simp only [exC] at h
  refine ⟨env, ρ, S, B.Y, sv.fs, PoS.rs sv h fun w S1 v H1 _ _ cf rw sv1 h1 => ?_⟩
  obtain ⟨x, e1, h2⟩ := PoS.opt h1
  obtain ⟨env', e2, h3⟩ := PoS.opt h2
  clear h1 h2
  cases w with
  | r n => cases e1
  | d x' =>
    cases e1
    exact ⟨env, ρ, S1, B.Y, x, env', sv1.fs, rw, e2, fun σ' _ fs' => h3 σ' H1 ρ (sv1.toEnv fs')⟩
theorem q_par {i j : Nat} {x y : Str} {px py pt pt2 : Pos} {kt k2} (ok : XOk X O k sc sc) (h1 : k.N[i]? = some x) (h2 : k.N[j]? = some y) (hij : i ≠ j) (h3 : X.env.scope.names.lookup x = some .local) (h4 : X.env.scope.names.lookup y = some .local)
    (ha : PE X a (tE (fm X O lo W) ea)) (hb : PE X b (tE (fm X O lo W) eb)) (hpa : plainX a = true) (hpb : plainX b = true) (hw : swappedStores [.Tuple [.Name x px, .Name y py] kt pt] (.Tuple [a, b] k2 pt2) X.env = pure (some [x, y])) :
    PS X (.Assign [.Tuple [.Name x px, .Name y py] kt pt] (.Tuple [a, b] k2 pt2) pos) (tS (fm X O lo W) B P Z A fu (.par i j ea eb)) := by
  refine PS_imp (ps_par (i := i) (j := j) ok.calm ok.nd (by rw [ok.N]; exact h1) (by rw [ok.N]; exact h2) hij h3 h4 (pa_cons ha (pa_cons hb pa_nil (star_of hpb _ _)) (star_of hpa _ _)) hw) fun D σ H ⟨env, ρ, S, sv, h⟩ => ?_
  simp only [exC] at h
  refine ⟨env, ρ, S, B.Y, sv.fs, PoS.rs sv h fun w S1 v H1 _ _ cf rw sv1 h1 => ⟨env, ρ, S1, B.Y, sv1.fs, PoS.rs sv1 h1 fun u S2 t H2 _ st2 cf2 rw2 sv2 h2 => ?_⟩⟩
  exact ⟨v, t, rfl, h2 _ H2 ρ ((sv2.set (st2.rw' rw)).set rw2)⟩
def augOf : Bop → Operator → Bool
  | .add, .Add => true
  | .sub, .Sub => true
  | _, _ => false
theorem q_aug {i : Nat} {x : Str} {op : Bop} {oq : Operator} {px : Pos} (ok : XOk X O k sc sc) (h1 : k.N[i]? = some x) (h2 : locB sc x = true) (ho : augOf op oq = true) (ha : PE X a (tE (fm X O lo W) ea)) :
    PS X (.AugAssign (.Name x px) oq a pos) (tS (fm X O lo W) B P Z A fu (.aug i op ea)) := by
  obtain ⟨l1, l2⟩ := ok.st x h2
  have go : ∀ D σ H, tS (fm X O lo W) B P Z A fu (.aug i op ea) D σ H → ∃ v, σ[i]? = some (some v) ∧ tE (fm X O lo W) ea σ H fun y H1 => ∃ m n z, v = .int m ∧ y = .int n ∧ augD op (.int m) (.int n) = some (.int z) ∧ D.nx (σ.set i (some (.int z))) H1 := by
    rintro D σ H ⟨env, ρ, S, sv, h⟩
    simp only [exC] at h
    obtain ⟨x, e1, h⟩ := PoS.opt h
    have e1 : env[i]? = some (some x) := by
      cases e : env[i]? with
      | none => rw [e] at e1; cases e1
      | some o => rw [e] at e1; cases o with
        | none => cases e1
        | some w => cases e1; rfl
    obtain ⟨v, e2, rv⟩ := sv.fs.er.at_ i x e1
    refine ⟨v, e2, env, ρ, S, B.Y, sv.fs, PoS.rs sv h fun w S1 y H1 _ st cf rw sv1 h1 => ?_⟩
    obtain ⟨x', e3, h2⟩ := PoS.opt h1
    obtain ⟨y', e4, h3⟩ := PoS.opt h2
    obtain ⟨z, e5, h4⟩ := PoS.opt h3
    clear h1 h2 h3 h
    cases x with
    | r n => cases e3
    | d x0 =>
      cases w with
      | r n => cases e4
      | d y0 =>
        cases e3
        cases e4
        cases op <;> cases x' <;> cases y' <;> simp only [augD, reduceCtorEq] at e5
        · cases e5
          cases rv
          cases rw
          exact ⟨_, _, _, rfl, rfl, rfl, h4 _ H1 ρ (sv1.set (.int _))⟩
        · cases e5
          cases rv
          cases rw
          exact ⟨_, _, _, rfl, rfl, rfl, h4 _ H1 ρ (sv1.set (.int _))⟩
  cases op <;> cases oq <;> first | cases ho | skip
  · refine PS_imp (ps_aug (i := i) ok.nd (by rw [ok.N]; exact h1) l1 ha ip_add l2) fun D σ H h => ?_
    obtain ⟨v, e, env, ρ, S, Y, fs, po⟩ := go D σ H h
    refine ⟨v, e, env, ρ, S, Y, fs, po.mono fun y H1 ⟨m, n, z, e1, e2, e3, q⟩ => ?_⟩
    cases e3
    exact ⟨m, n, e1, e2, q⟩
  · refine PS_imp (ps_aug (i := i) ok.nd (by rw [ok.N]; exact h1) l1 ha ip_sub l2) fun D σ H h => ?_
    obtain ⟨v, e, env, ρ, S, Y, fs, po⟩ := go D σ H h
    refine ⟨v, e, env, ρ, S, Y, fs, po.mono fun y H1 ⟨m, n, z, e1, e2, e3, q⟩ => ?_⟩
    cases e3
    exact ⟨m, n, e1, e2, q⟩
end
end Rf
namespace Rf
open PySem PySem.Spec PyProof.Rows L2

/-! ### a list of the store is made, grows -/
section
variable {F : Fm} {B : Fr0} {P P' : Addr → HO → Prop} {Z Z' : Addr → Prop} {A A' : List Addr} {σ σ1 : L2.St} {H H1 : Hp} {env : Env} {ρ : List Addr} {S S1 : Sto}
theorem mu_push {Y : List Addr} {p : Addr} {o : So} (ho : o.mut = true) (hl : ρ.length = S.length) {a : Addr} : mu (ρ ++ [p]) (S ++ [o]) Y a ↔ a = p ∨ mu ρ S Y a := by
  constructor
  · rintro (h | ⟨n, u, h1, h2, h3⟩)
    · exact .inr (.inl h)
    · by_cases hn : n < ρ.length
      · rw [List.getElem?_append_left hn] at h1
        rw [List.getElem?_append_left (by omega)] at h2
        exact .inr (.inr ⟨n, u, h1, h2, h3⟩)
      · rw [List.getElem?_append_right (by omega)] at h1
        have : n - ρ.length = 0 := by
          cases q : n - ρ.length with
          | zero => rfl
          | succ m => rw [q] at h1; simp at h1
        rw [this] at h1
        simp at h1
        exact .inl h1.symm
  · rintro (h | h | ⟨n, u, h1, h2, h3⟩)
    · subst h
      exact .inr ⟨ρ.length, o, by simp, by rw [hl]; simp, ho⟩
    · exact .inl h
    · have hn : n < ρ.length := (List.getElem?_eq_some_iff.mp h1).1
      exact .inr ⟨n, u, by rw [List.getElem?_append_left hn]; exact h1, by rw [List.getElem?_append_left (by omega)]; exact h2, h3⟩
/-- a new list p of the data ds is laid into the store and given to the name i -/
theorem Sv.push (s : Sv F B P Z A σ H env ρ S) {i : Nat} {p : Addr} {xs : List V} {ds : List PyData} (hp : H p = none) (rr : RpA F.K H (mu ρ S B.Y) xs ds) :
    Sv F B P Z A (σ.set i (some (.ref p))) (upd H p (.lst xs)) (env.set i (some (.r S.length))) (ρ ++ [p]) (S ++ [.lst ds]) := by
  have cf := s.fs.cf
  have sm : Same H (upd H p (.lst xs)) := fun b o e => by rw [upd_ne (ne_of_none e hp)]; exact e
  have lift : ∀ a ys, LR F.K H (mu ρ S B.Y) a ys → LR F.K (upd H p (.lst xs)) (mu (ρ ++ [p]) (S ++ [.lst ds]) B.Y) a ys := fun a ys l => by
    rcases l with ⟨l1, l2⟩ | l
    · refine .inl ⟨rd_same sm l1, fun z => ?_⟩
      rcases (mu_push rfl cf.len).mp z with e | z
      · subst e
        rcases l1 with l1 | ⟨o, l1⟩ <;> (rw [hp] at l1; cases l1)
      · exact l2 z
    · exact .inr l
  have pr : p ∉ ρ := fun h => by
    obtain ⟨n, hn, e⟩ := List.getElem_of_mem h
    have hn' : n < S.length := by rw [← cf.len]; exact hn
    exact (cf.ent n p S[n] (by rw [List.getElem?_eq_getElem hn, e]) (List.getElem?_eq_getElem hn')).alive hp
  have py : p ∉ B.Y := fun h => cf.alive p h hp
  have rp' : ∀ v d, Rp F.K H (mu ρ S B.Y) v d → Rp F.K (upd H p (.lst xs)) (mu (ρ ++ [p]) (S ++ [.lst ds]) B.Y) v d := fun v d => Rp.mono lift (sqT_same sm) d v
  have rpa' : ∀ {v d}, RpA F.K H (mu ρ S B.Y) v d → RpA F.K (upd H p (.lst xs)) (mu (ρ ++ [p]) (S ++ [.lst ds]) B.Y) v d := fun {v d} => RpA.mono lift (sqT_same sm) d v
  have cf' : Cf F.ω F.K (upd H p (.lst xs)) (ρ ++ [p]) (S ++ [.lst ds]) B.Y := by
    refine ⟨by simp [cf.len], ?_, fun a ha => ?_, fun a ha => ?_, fun n a o h1 h2 => ?_⟩
    · rw [List.nodup_append]
      exact ⟨cf.nd, by simp, fun a ha b hb e => by simp at hb; subst hb e; exact pr ha⟩
    · cases e : H a with
      | none => exact absurd e (cf.alive a ha)
      | some u => rw [sm a u e]; simp
    · rcases List.mem_append.mp ha with h | h
      · exact cf.sep a h
      · simp at h; subst h; exact py
    · by_cases hn : n < ρ.length
      · rw [List.getElem?_append_left hn] at h1
        rw [List.getElem?_append_left (by rw [← cf.len]; exact hn)] at h2
        exact (cf.ent n a o h1 h2).mono lift (sqT_same sm) fun u e => sm _ _ e
      · rw [List.getElem?_append_right (by omega)] at h1
        rw [List.getElem?_append_right (by rw [← cf.len]; omega)] at h2
        have q : n - ρ.length = 0 := by
          cases q : n - ρ.length with
          | zero => rfl
          | succ m => rw [q] at h1; simp at h1
        rw [q] at h1
        rw [← cf.len, q] at h2
        simp at h1 h2
        subst h1 h2
        exact .ofL rfl upd_same (rpa' rr)
  have fs' : Fs F σ (upd H p (.lst xs)) env (ρ ++ [p]) (S ++ [.lst ds]) B.Y := ⟨cf', s.fs.er.len, fun j w e => by
    obtain ⟨v, e1, r⟩ := s.fs.er.at_ j w e
    refine ⟨v, e1, ?_⟩
    cases w with
    | d x => exact rp' v x r
    | r n =>
      obtain ⟨a, e2, e3⟩ := r
      exact ⟨a, by rw [List.getElem?_append_left (List.getElem?_eq_some_iff.mp e2).1]; exact e2, e3⟩⟩
  have hlo : F.lo ≤ S.length := by
    by_cases h0 : F.lo = 0
    · omega
    · have := s.pre (F.lo - 1) (by omega)
      rw [List.getElem?_eq_getElem (l := B.S) (by have := s.lo; omega)] at this
      have := (List.getElem?_eq_some_iff.mp this).1
      omega
  refine ⟨fs'.set ⟨p, by rw [← cf.len]; simp, rfl⟩, s.lo, s.same.trans sm, fun n a hn e => ?_, fun n hn => ?_, fun b o h => ?_, fun b h => ?_, fun n a e => ?_⟩
  · by_cases hl : n < ρ.length
    · rw [List.getElem?_append_left hl] at e
      exact s.own n a hn e
    · rw [List.getElem?_append_right (by omega)] at e
      have q : n - ρ.length = 0 := by
        cases q : n - ρ.length with
        | zero => rfl
        | succ m => rw [q] at e; simp at e
      rw [q] at e
      simp at e
      subst e
      exact s.same.free hp
  · rw [List.getElem?_append_left (by omega)]
    exact s.pre n hn
  · obtain ⟨h1, h2⟩ := s.pin b o h
    refine ⟨sm _ _ h1, fun n u hn e1 e2 => ?_⟩
    by_cases hl : n < ρ.length
    · rw [List.getElem?_append_left hl] at e1
      rw [List.getElem?_append_left (by rw [← cf.len]; exact hl)] at e2
      exact h2 n u hn e1 e2
    · rw [List.getElem?_append_right (by omega)] at e1
      have q : n - ρ.length = 0 := by
        cases q : n - ρ.length with
        | zero => rfl
        | succ m => rw [q] at e1; simp at e1
      rw [q] at e1
      simp at e1
      subst e1
      rw [hp] at h1; cases h1
  · obtain ⟨h1, h2⟩ := s.dat b h
    refine ⟨fun z => ?_, fun z => ?_⟩
    · cases e : H b with
      | none => exact h1 e
      | some u => rw [sm _ _ e] at z; cases z
    · rcases (mu_push rfl cf.len).mp z with e | z
      · subst e; exact h1 hp
      · exact h2 z
  · have := s.beg n a e
    rw [List.getElem?_append_left (List.getElem?_eq_some_iff.mp this).1]
    exact this
theorem mu_setL {Y : List Addr} {n : Nat} {o u : So} (h1 : S[n]? = some o) (h2 : o.mut = u.mut) (a : Addr) : mu ρ (S.set n u) Y a ↔ mu ρ S Y a := by
  have hn : n < S.length := (List.getElem?_eq_some_iff.mp h1).1
  constructor
  · rintro (h | ⟨m, w, e1, e2, e3⟩)
    · exact .inl h
    · by_cases hm : n = m
      · subst hm
        rw [List.getElem?_set_self hn] at e2; cases e2
        exact .inr ⟨n, o, e1, h1, by rw [h2]; exact e3⟩
      · rw [List.getElem?_set_ne hm] at e2
        exact .inr ⟨m, w, e1, e2, e3⟩
  · rintro (h | ⟨m, w, e1, e2, e3⟩)
    · exact .inl h
    · by_cases hm : n = m
      · subst hm
        rw [h1] at e2; cases e2
        exact .inr ⟨n, u, e1, by rw [List.getElem?_set_self hn], by rw [← h2]; exact e3⟩
      · exact .inr ⟨m, w, e1, by rw [List.getElem?_set_ne hm]; exact e2, e3⟩
theorem mu_setE {Y : List Addr} {n : Nat} {o u : So} (h1 : S[n]? = some o) (h2 : o.mut = u.mut) : mu ρ (S.set n u) Y = mu ρ S Y := funext fun a => propext (mu_setL h1 h2 a)
/-- the n-th list of the store takes other data -/
theorem Sv.write (s : Sv F B P Z A σ H env ρ S) {n : Nat} {a : Addr} {xs ys : List V} {ds es : List PyData} (hn : F.lo ≤ n) (h1 : ρ[n]? = some a) (h2 : S[n]? = some (.lst ds)) (hH : H a = some (.lst xs)) (rr : RpA F.K H (mu ρ S B.Y) ys es) :
    Sv F B P Z A σ (upd H a (.lst ys)) env ρ (S.set n (.lst es)) := by
  have cf := s.fs.cf
  have hM : mu ρ S B.Y a := .inr ⟨n, _, h1, h2, rfl⟩
  have hl : n < S.length := (List.getElem?_eq_some_iff.mp h2).1
  have em : mu ρ (S.set n (.lst es)) B.Y = mu ρ S B.Y := mu_setE h2 rfl
  have rp' : ∀ v d, Rp F.K H (mu ρ S B.Y) v d → Rp F.K (upd H a (.lst ys)) (mu ρ (S.set n (.lst es)) B.Y) v d := fun v d r => by
    rw [em]; exact Rp.mono (lr_upd hM hH) (sqT_upd hH) d v r
  have rpa' : ∀ {v d}, RpA F.K H (mu ρ S B.Y) v d → RpA F.K (upd H a (.lst ys)) (mu ρ (S.set n (.lst es)) B.Y) v d := fun {v d} r => by
    rw [em]; exact RpA.mono (lr_upd hM hH) (sqT_upd hH) d v r
  refine ⟨⟨⟨by simpa using cf.len, cf.nd, fun b hb => ?_, cf.sep, fun m b o e1 e2 => ?_⟩, s.fs.er.len, fun j w e => ?_⟩, s.lo, fun b o e => ?_, s.own, fun m hm => ?_, fun b o h => ?_, fun b h => ?_, s.beg⟩
  · by_cases e : b = a
    · subst e; rw [upd_same]; simp
    · rw [upd_ne e]; exact cf.alive b hb
  · by_cases hm : n = m
    · subst hm
      rw [h1] at e1; cases e1
      rw [List.getElem?_set_self hl] at e2; cases e2
      exact .ofL rfl upd_same (rpa' rr)
    · rw [List.getElem?_set_ne hm] at e2
      have ne : b ≠ a := fun z => by subst z; exact hm (nodA cf.nd h1 e1)
      rw [em]
      exact (cf.ent m b o e1 e2).mono (lr_upd hM hH) (sqT_upd hH) fun _ e => by rw [upd_ne ne]; exact e
  · obtain ⟨v, e1, r⟩ := s.fs.er.at_ j w e
    refine ⟨v, e1, ?_⟩
    cases w with
    | d x => exact rp' v x r
    | r m => exact r
  · have ne : b ≠ a := fun z => by
      subst z
      have := s.own n b hn h1
      rw [e] at this; cases this
    rw [upd_ne ne]; exact s.same b o e
  · rw [List.getElem?_set_ne (by omega)]; exact s.pre m hm
  · obtain ⟨k1, k2⟩ := s.pin b o h
    have ne : b ≠ a := fun z => by
      subst z
      have := k2 n _ hn h1 h2
      cases this
    refine ⟨by rw [upd_ne ne]; exact k1, fun m u hm e1 e2 => ?_⟩
    by_cases hnm : n = m
    · subst hnm; rw [h1] at e1; cases e1; exact absurd rfl ne
    · rw [List.getElem?_set_ne hnm] at e2
      exact k2 m u hm e1 e2
  · obtain ⟨k1, k2⟩ := s.dat b h
    refine ⟨?_, by rw [em]; exact k2⟩
    by_cases e : b = a
    · subst e; rw [upd_same]; simp
    · rw [upd_ne e]; exact k1
end
section
variable {X : Cx} {O : Orc} {k : Ck} {sc : Scope} {lo fu : Nat} {W : WX} {B : Fr0} {P : Addr → HO → Prop} {Z : Addr → Prop} {A : List Addr} {a b c tg : Expr} {ea eb ec : E} {pos : Pos}
theorem noSwap {e : Expr} (h : plainX e = true) (hc : ∀ el gs s p, e ≠ .ListComp el gs s p) (t : Option Expr) (l : Nat) (env : PySem.Env) : swapsWith e t l env = pure false := by
  cases e <;> first | rfl | exact absurd rfl (hc _ _ _ _) | cases h
theorem q_own {i : Nat} {x : Str} {px p2 : Pos} {es : List Expr} {eas : Es} (ok : XOk X O k sc sc) (h1 : k.N[i]? = some x) (h2 : locB sc x = true) (hl : eas.len ≤ 1000) (ha : PA X es (tEs (fm X O lo W) eas)) :
    PS X (.Assign [.Name x px] (.List es p2) pos) (tS (fm X O lo W) B P Z A fu (.own i eas)) := by
  obtain ⟨l1, l2⟩ := ok.st x h2
  refine PS_imp (ps_set (i := i) ok.nd (by rw [ok.N]; exact h1) l1 (pe_lst ha) rfl l2) fun D σ H ⟨env, ρ, S, sv, h⟩ => ?_
  simp only [exC] at h
  refine ⟨env, ρ, S, B.Y, sv.fs, PoS.rs sv h fun ws S1 vs H1 e0 _ cf rw sv1 h1 => ⟨small_of (by rw [rw.len, evs_len e0]; exact hl), fun p hp => ?_⟩⟩
  cases e1 : toDs lo ws S1 with
  | no => rw [show toDs (fm X O lo W).lo ws S1 = _ from e1] at h1; exact h1.elim
  | ex c S2 => exact (toDs_nex e1).elim
  | ok ds S2 =>
    rw [show toDs (fm X O lo W).lo ws S1 = _ from e1] at h1
    obtain ⟨st2, cf2, r2⟩ := toDs_ok cf rw e1
    exact h1 _ _ _ ((sv1.step st2 cf2).push hp r2)
theorem lstAt_some {lo : Nat} {env : Env} {S : Sto} {i n : Nat} {xs : List PyData} (h : lstAt lo env S i = some (n, xs)) : env[i]? = some (some (.r n)) ∧ lo ≤ n ∧ S[n]? = some (.lst xs) := by
  unfold lstAt at h
  split at h
  · rename_i m e
    split at h
    · rename_i hl
      split at h
      · rename_i ys e2
        cases h
        exact ⟨e, hl, e2⟩
      · cases h
    · cases h
  · cases h
theorem q_app {i : Nat} {x : Str} {m : Str} {px ap cp : Pos} (ok : XOk X O k sc sc) (h1 : k.N[i]? = some x) (h2 : visB sc x = true) (h3 : (x == ("__debug__" : Str)) = false) (h4 : (x == ("__classdict__" : Str)) = false) (hm : m = ("append" : Str)) (hl : (ap.endLine == cp.line) = true) (hp : plainX a = true) (ha : PE X a (tE (fm X O lo W) ea)) :
    PS X (.Expr (.Call (.Attribute (.Name x px) m ap) [a] [] cp) pos) (tS (fm X O lo W) B P Z A fu (.app i ea)) := by
  subst hm
  have pn : PE X (.Name x px) (tVar i) := pe_var (i := i) (by rw [ok.N]; exact h1) (by rw [ok.sc]; exact vis_of h2) h3 h4
  refine PS_imp (ps_expr (pe_bm PySem.F.plainAttrs_list PySem.F.slot_list_append PySem.F.type_list_append mt_append pn (pa_cons ha pa_nil (star_of hp _ _)) rfl (by rw [star_of hp]; rfl) hl (star_of hp _ _) rfl) rfl) fun D σ H ⟨env, ρ, S, sv, h⟩ => ?_
  simp only [exC] at h
  obtain ⟨⟨n, ds⟩, e0, h0⟩ := PoS.opt h
  obtain ⟨g1, g2, g3⟩ := lstAt_some e0
  obtain ⟨v, e1, b, e2, ev⟩ := sv.fs.er.at_ i _ g1
  subst ev
  obtain ⟨xs, e3, r3⟩ := (sv.fs.cf.ent n b _ e2 g3).lst _ rfl
  refine ⟨.ref b, e1, .inl ⟨rfl, xs, SqL.of e3⟩, env, ρ, S, B.Y, sv.fs, PoS.rs sv h0 fun w S1 y H1 _ st cf rw sv1 h1 => ?_⟩
  cases e4 : toD lo w S1 with
  | no => rw [show toD (fm X O lo W).lo w S1 = _ from e4] at h1; exact h1.elim
  | ex c S2 => exact (toD_nex e4).elim
  | ok z S2 =>
    rw [show toD (fm X O lo W).lo w S1 = _ from e4] at h1
    obtain ⟨st2, cf2, r2⟩ := toD_ok cf rw e4
    obtain ⟨⟨n', ds'⟩, e5, h2⟩ := PoS.opt h1
    obtain ⟨g4, g5, g6⟩ := lstAt_some e5
    rw [g1] at g4
    cases g4
    have sv2 := sv1.step st2 cf2
    obtain ⟨xs', e6, r6⟩ := (sv2.fs.cf.ent n b _ e2 g6).lst _ rfl
    simp only at h2
    split at h2
    · rename_i hz
      exact ⟨b, xs', y, rfl, rfl, e6, by rw [r6.len, ← lim_eq]; exact hz, h2 _ _ ρ (sv2.write g5 e2 g6 e6 (r6.app (.cons r2 .nil)))⟩
    · exact h2.elim
/-- extend, whatever list it is that is put behind -/
theorem extW (l b : Addr) (items items2 : Array Value) (n n2 : Nat) (dd : Option Addr) (sl : Array (Option Value)) (hc0 : ¬(!items.isEmpty && Builtin.List.listTooLong (items.size + items2.size)) = true) (hc1 : items.size ≤ sizeLine) (hs2 : items.size + items2.size ≤ sizeLine + 1) :
    Meets (Builtin.«list.extend» ⟨[.ref l, .ref b], []⟩) (fun _ R s => s.heap.get? l = some { cls := .type "list", dict := none, data := .seq items n, slots := #[] } ∧ s.heap.get? b = some { cls := .type "list", dict := dd, data := .seq items2 n2, slots := sl } ∧
      R (.ok (.ret Value.none)) { s with heap := s.heap.update l (Obj.mapSeq fun x => x ++ items2), toks := s.toks }) :=
  .of_wp fun prog w A R s h => by
    obtain ⟨hp, g, d, tk, os⟩ := s
    obtain ⟨hl, hb, h⟩ := h
    have f1 := AutoSeq1.idx_int
    have f2 := AutoSeq1.sub_tuple_tuple
    have f3 := AutoSeq1.sub_list_list
    have f4 := AutoSeq1.sub_tuple_list
    have f5 := AutoSeq1.sub_list_tuple
    have hz' : (items ++ items2).size ≤ sizeLine + 1 := by rw [Array.size_append]; exact hs2
    wp_walk using (wpAny_updateSeq hl rfl (hz := hc1) (_hz' := hz')), AutoSeq1.wpAny_loadPart' hl, AutoSeq1.wpAny_loadPart' hb
    exact ⟨_, rfl, h⟩
def rExtS (K : Frag) : V → List V → Hp → VK → Prop := fun x vs H Q => ∃ l b xs zs, x = .ref l ∧ vs = [.ref b] ∧ H l = some (.lst xs) ∧ SqL K H b zs ∧ xs.length + zs.length ≤ sizeLine ∧ Q .non (upd H l (.lst (xs ++ zs)))
theorem mt_extS : MtM X "list.extend" (rExtS X.K) := by
  intro pins s σ H x vs v us Q I rx rv ⟨l, b, xs, zs, e1, e2, hH, hB, hz, q⟩
  subst e1 e2
  cases rx
  obtain ⟨u, rfl, ru⟩ := rv.one
  cases ru
  obtain ⟨z, its, n, r, hl, e⟩ := I.lstM hH
  obtain ⟨its2, r2, ⟨o2, n2, g2, c2, _, d2⟩, _⟩ := I.list hB
  obtain ⟨k2, dd2, da2, s2⟩ := o2
  simp only at c2 d2
  subst c2 d2
  have l2 := r2.length
  have hsz : its.toArray.size + its2.toArray.size ≤ sizeLine := by simp only [List.size_toArray]; omega
  have hlong : ¬ (!its.toArray.isEmpty && Builtin.List.listTooLong (its.toArray.size + its2.toArray.size)) = true := by
    rw [notLongL hsz]
    simp
  refine call_meets PySem.F.slot_list_extend ⟨_, e, rfl⟩ PySem.F.entry_list_extend (PySem.F.args_list_extend_2 _ _)
    (extW l b its.toArray its2.toArray n n2 dd2 s2 hlong (by simp only [List.size_toArray]; omega) (by omega)) ⟨e, g2, ?_⟩
  exact ⟨.non, _, I.lset (its' := its ++ its2) hH e (by simp) (r.append r2) (by rw [List.length_append]; exact hz), rfl, q⟩
theorem q_ext {i : Nat} {x : Str} {m : Str} {px ap cp : Pos} (ok : XOk X O k sc sc) (h1 : k.N[i]? = some x) (h2 : visB sc x = true) (h3 : (x == ("__debug__" : Str)) = false) (h4 : (x == ("__classdict__" : Str)) = false) (hm : m = ("extend" : Str)) (hl : (ap.endLine == cp.line) = true) (hp : plainX a = true) (ha : PE X a (tE (fm X O lo W) ea)) :
    PS X (.Expr (.Call (.Attribute (.Name x px) m ap) [a] [] cp) pos) (tS (fm X O lo W) B P Z A fu (.ext i ea)) := by
  subst hm
  have pn : PE X (.Name x px) (tVar i) := pe_var (i := i) (by rw [ok.N]; exact h1) (by rw [ok.sc]; exact vis_of h2) h3 h4
  refine PS_imp (ps_expr (pe_bm PySem.F.plainAttrs_list PySem.F.slot_list_extend PySem.F.type_list_extend mt_extS pn (pa_cons ha pa_nil (star_of hp _ _)) rfl (by rw [star_of hp]; rfl) hl (star_of hp _ _) rfl) rfl) fun D σ H ⟨env, ρ, S, sv, h⟩ => ?_
  simp only [exC] at h
  obtain ⟨⟨n, ds⟩, e0, h0⟩ := PoS.opt h
  obtain ⟨g1, g2, g3⟩ := lstAt_some e0
  obtain ⟨v, e1, b, e2, ev⟩ := sv.fs.er.at_ i _ g1
  subst ev
  obtain ⟨xs, e3, r3⟩ := (sv.fs.cf.ent n b _ e2 g3).lst _ rfl
  refine ⟨.ref b, e1, .inl ⟨rfl, xs, SqL.of e3⟩, env, ρ, S, B.Y, sv.fs, PoS.rs sv h0 fun w S1 y H1 _ st cf rw sv1 h1 => ?_⟩
  obtain ⟨ys, e4, h2⟩ := PoS.opt h1
  obtain ⟨⟨n', ds'⟩, e5, h3⟩ := PoS.opt h2
  obtain ⟨g4, g5, g6⟩ := lstAt_some e5
  rw [g1] at g4
  cases g4
  obtain ⟨xs', e6, r6⟩ := (sv1.fs.cf.ent n b _ e2 g6).lst _ rfl
  simp only at h3
  cases w with
  | r m => cases e4
  | d x0 =>
    cases x0 <;> simp [argOf, asL] at e4
    subst e4
    cases rw with
    | @lst c zs _ l r =>
      split at h3
      · rename_i hz
        exact ⟨b, c, xs', zs, rfl, rfl, e6, l.sq, by rw [r6.len, r.len, ← lim_eq]; exact hz, h3 _ _ ρ (sv1.write g5 e2 g6 e6 (r6.app r))⟩
      · exact h3.elim
theorem q_whl {ss : List Stmt} {cb : Cs} (po : PassesOwn (model X.prog X.w) X.A X.env X.xe) (hc : PT X c (tB' (fm X O lo W) ec)) (hb : PSs X ss (tSs (fm X O lo W) B P Z A fu cb)) : PS X (.While c ss [] pos) (tS (fm X O lo W) B P Z A fu (.whl ec cb)) := by
  refine PS_imp (ps_while po hc hb) fun D σ H ⟨env, ρ, S, sv, h⟩ => ?_
  simp only [exC] at h
  refine ⟨fun m σ H => ∃ env ρ S, Sv (fm X O lo W) B P Z A σ H env ρ S ∧ PoS (fm X O lo W) B P Z A D (whGo (fun env S => (ev O lo ec env S).bind fun w S1 => (orNo (asB w) S1)) (fun env S => exCs O fu lo cb env S) m env S), ⟨fu, env, ρ, S, sv, h⟩, ?_⟩
  rintro m σ H ⟨env, ρ, S, sv, h⟩
  cases m with
  | zero => exact h.elim
  | succ m =>
    simp only [whGo] at h
    refine ⟨env, ρ, S, B.Y, sv.fs, PoS.rs sv h fun kk S1 v H1 _ _ cf rw sv1 h1 => ?_⟩
    have rw : v = kk := rw
    subst rw
    cases v with
    | false => rw [if_neg (by simp)] at h1 ⊢; exact h1 _ _ _ sv1
    | true =>
      rw [if_pos rfl] at h1 ⊢
      refine ⟨fun σ' H' => ∃ env ρ S, Sv (fm X O lo W) B P Z A σ' H' env ρ S ∧ PoS (fm X O lo W) B P Z A D (whGo (fun env S => (ev O lo ec env S).bind fun w S1 => (orNo (asB w) S1)) (fun env S => exCs O fu lo cb env S) m env S), fun σ' H' q => ⟨m, by omega, q⟩, env, ρ, S1, sv1, ?_⟩
      show PoS (fm X O lo W) B P Z A _ (exCs O fu lo cb env S1)
      cases e : exCs O fu lo cb env S1 with
      | no => rw [e] at h1; exact h1
      | ex c env' S' => rw [e] at h1; exact h1
      | nx env' S' => rw [e] at h1; exact fun σ' H' ρ' sv' => ⟨env', ρ', S', sv', h1⟩
      | rt w S' => rw [e] at h1; exact h1
      | bk env' S' => rw [e] at h1; exact h1
      | ct env' S' => rw [e] at h1; exact fun σ' H' ρ' sv' => ⟨env', ρ', S', sv', h1⟩
/-- an own exception class without own __init__ -/
def ExOk (X : Cx) (c : String) : Prop := ∃ C, X.mg (Str.ofString c) = some (.ref C) ∧ PySem.W.excIn X.K C PySem.HandSPX.veTail "ValueError.__new__" = true ∧ PySem.W.keepIn X.K (.ref C) = true ∧ Raises X (.ref C)
theorem q_rais {cn : String} {y m : Str} {j : Nat} {p p1 p2 : Pos} (ok : XOk X O k sc sc) (tk : Takes X W) (h1 : y = Str.ofString cn) (h2 : glB sc y = true) (hx : ExOk X cn) :
    PS X (.Raise (some (.Call (.Name y p1) [.Constant (.str m) j p2] [] p)) none pos) (tS (fm X O lo W) B P Z A fu (.rais cn)) := by
  obtain ⟨g1, g2⟩ := ok.gl h2
  obtain ⟨C, m1, m2, m3, m4⟩ := hx
  subst h1
  exact PS_imp (ps_raise ok.calm tk (pmk_own PySem.F.excBase_ValueError m2 m1 m3 m4 g1 g2)) fun D σ H ⟨env, ρ, S, sv, h⟩ => h σ H ρ C sv m1
end
end Rf
namespace Rf
open PySem PySem.Spec PyProof.Rows L2
section
variable {F : Fm} {B : Fr0} {P P' : Addr → HO → Prop} {Z Z' : Addr → Prop} {A A' : List Addr} {σ σ1 : L2.St} {H H1 : Hp} {env : Env} {ρ : List Addr} {S S1 : Sto}
/-- the n-th dict of the store takes an entry -/
theorem Sv.writeD (s : Sv F B P Z A σ H env ρ S) {n : Nat} {a : Addr} {xs ys : List En3} {ks es : List (PyData × PyData)} (hn : F.lo ≤ n) (h1 : ρ[n]? = some a) (h2 : S[n]? = some (.dct ks)) (hH : H a = some (DcO F.ω a xs)) (rr : DKV F.K H (mu ρ S B.Y) es ys) :
    Sv F B P Z A σ (upd H a (DcO F.ω a ys)) env ρ (S.set n (.dct es)) := by
  have cf := s.fs.cf
  have hM : mu ρ S B.Y a := .inr ⟨n, _, h1, h2, rfl⟩
  have hl : n < S.length := (List.getElem?_eq_some_iff.mp h2).1
  have em : mu ρ (S.set n (.dct es)) B.Y = mu ρ S B.Y := mu_setE h2 rfl
  have rp' : ∀ v d, Rp F.K H (mu ρ S B.Y) v d → Rp F.K (upd H a (DcO F.ω a ys)) (mu ρ (S.set n (.dct es)) B.Y) v d := fun v d r => by
    rw [em]; exact Rp.mono (lr_any hM) (sqT_any hH) d v r
  refine ⟨⟨⟨by simpa using cf.len, cf.nd, fun b hb => ?_, cf.sep, fun m b o e1 e2 => ?_⟩, s.fs.er.len, fun j w e => ?_⟩, s.lo, fun b o e => ?_, s.own, fun m hm => ?_, fun b o h => ?_, fun b h => ?_, s.beg⟩
  · by_cases e : b = a
    · subst e; rw [upd_same]; simp
    · rw [upd_ne e]; exact cf.alive b hb
  · by_cases hm : n = m
    · subst hm
      rw [h1] at e1; cases e1
      rw [List.getElem?_set_self hl] at e2; cases e2
      rw [em]
      exact ⟨fun ds e => (by cases e), fun kvs e => (by cases e; exact ⟨ys, upd_same, rr.mono (lr_any hM) (sqT_any hH)⟩)⟩
    · rw [List.getElem?_set_ne hm] at e2
      have ne : b ≠ a := fun z => by subst z; exact hm (nodA cf.nd h1 e1)
      rw [em]
      exact (cf.ent m b o e1 e2).mono (lr_any hM) (sqT_any hH) fun _ e => by rw [upd_ne ne]; exact e
  · obtain ⟨v, e1, r⟩ := s.fs.er.at_ j w e
    refine ⟨v, e1, ?_⟩
    cases w with
    | d x => exact rp' v x r
    | r m => exact r
  · have ne : b ≠ a := fun z => by
      subst z
      have := s.own n b hn h1
      rw [e] at this; cases this
    rw [upd_ne ne]; exact s.same b o e
  · rw [List.getElem?_set_ne (by omega)]; exact s.pre m hm
  · obtain ⟨k1, k2⟩ := s.pin b o h
    have ne : b ≠ a := fun z => by
      subst z
      have := k2 n _ hn h1 h2
      cases this
    refine ⟨by rw [upd_ne ne]; exact k1, fun m u hm e1 e2 => ?_⟩
    by_cases hnm : n = m
    · subst hnm; rw [h1] at e1; cases e1; exact absurd rfl ne
    · rw [List.getElem?_set_ne hnm] at e2
      exact k2 m u hm e1 e2
  · obtain ⟨k1, k2⟩ := s.dat b h
    refine ⟨?_, by rw [em]; exact k2⟩
    by_cases e : b = a
    · subst e; rw [upd_same]; simp
    · rw [upd_ne e]; exact k1
/-- a new dict p is laid into the store and given to the name i -/
theorem Sv.pushD (s : Sv F B P Z A σ H env ρ S) {i : Nat} {p : Addr} {xs : List En3} {ds : List (PyData × PyData)} (hp : H p = none) (rr : DKV F.K H (mu ρ S B.Y) ds xs) :
    Sv F B P Z A (σ.set i (some (.ref p))) (upd H p (DcO F.ω p xs)) (env.set i (some (.r S.length))) (ρ ++ [p]) (S ++ [.dct ds]) := by
  have cf := s.fs.cf
  have sm : Same H (upd H p (DcO F.ω p xs)) := fun b o e => by rw [upd_ne (ne_of_none e hp)]; exact e
  have lift : ∀ a ys, LR F.K H (mu ρ S B.Y) a ys → LR F.K (upd H p (DcO F.ω p xs)) (mu (ρ ++ [p]) (S ++ [.dct ds]) B.Y) a ys := fun a ys l => by
    rcases l with ⟨l1, l2⟩ | l
    · refine .inl ⟨rd_same sm l1, fun z => ?_⟩
      rcases (mu_push rfl cf.len).mp z with e | z
      · subst e
        rcases l1 with l1 | ⟨o, l1⟩ <;> (rw [hp] at l1; cases l1)
      · exact l2 z
    · exact .inr l
  have pr : p ∉ ρ := fun h => by
    obtain ⟨n, hn, e⟩ := List.getElem_of_mem h
    have hn' : n < S.length := by rw [← cf.len]; exact hn
    exact (cf.ent n p S[n] (by rw [List.getElem?_eq_getElem hn, e]) (List.getElem?_eq_getElem hn')).alive hp
  have py : p ∉ B.Y := fun h => cf.alive p h hp
  have rp' : ∀ v d, Rp F.K H (mu ρ S B.Y) v d → Rp F.K (upd H p (DcO F.ω p xs)) (mu (ρ ++ [p]) (S ++ [.dct ds]) B.Y) v d := fun v d => Rp.mono lift (sqT_same sm) d v
  have rpa' : ∀ {v d}, RpA F.K H (mu ρ S B.Y) v d → RpA F.K (upd H p (DcO F.ω p xs)) (mu (ρ ++ [p]) (S ++ [.dct ds]) B.Y) v d := fun {v d} => RpA.mono lift (sqT_same sm) d v
  have cf' : Cf F.ω F.K (upd H p (DcO F.ω p xs)) (ρ ++ [p]) (S ++ [.dct ds]) B.Y := by
    refine ⟨by simp [cf.len], ?_, fun a ha => ?_, fun a ha => ?_, fun n a o h1 h2 => ?_⟩
    · rw [List.nodup_append]
      exact ⟨cf.nd, by simp, fun a ha b hb e => by simp at hb; subst hb e; exact pr ha⟩
    · cases e : H a with
      | none => exact absurd e (cf.alive a ha)
      | some u => rw [sm a u e]; simp
    · rcases List.mem_append.mp ha with h | h
      · exact cf.sep a h
      · simp at h; subst h; exact py
    · by_cases hn : n < ρ.length
      · rw [List.getElem?_append_left hn] at h1
        rw [List.getElem?_append_left (by rw [← cf.len]; exact hn)] at h2
        exact (cf.ent n a o h1 h2).mono lift (sqT_same sm) fun u e => sm _ _ e
      · rw [List.getElem?_append_right (by omega)] at h1
        rw [List.getElem?_append_right (by rw [← cf.len]; omega)] at h2
        have q : n - ρ.length = 0 := by
          cases q : n - ρ.length with
          | zero => rfl
          | succ m => rw [q] at h1; simp at h1
        rw [q] at h1
        rw [← cf.len, q] at h2
        simp at h1 h2
        subst h1 h2
        exact ⟨fun ds e => (by cases e), fun kvs e => (by cases e; exact ⟨xs, upd_same, rr.mono lift (sqT_same sm)⟩)⟩
  have fs' : Fs F σ (upd H p (DcO F.ω p xs)) env (ρ ++ [p]) (S ++ [.dct ds]) B.Y := ⟨cf', s.fs.er.len, fun j w e => by
    obtain ⟨v, e1, r⟩ := s.fs.er.at_ j w e
    refine ⟨v, e1, ?_⟩
    cases w with
    | d x => exact rp' v x r
    | r n =>
      obtain ⟨a, e2, e3⟩ := r
      exact ⟨a, by rw [List.getElem?_append_left (List.getElem?_eq_some_iff.mp e2).1]; exact e2, e3⟩⟩
  have hlo : F.lo ≤ S.length := by
    by_cases h0 : F.lo = 0
    · omega
    · have := s.pre (F.lo - 1) (by omega)
      rw [List.getElem?_eq_getElem (l := B.S) (by have := s.lo; omega)] at this
      have := (List.getElem?_eq_some_iff.mp this).1
      omega
  refine ⟨fs'.set ⟨p, by rw [← cf.len]; simp, rfl⟩, s.lo, s.same.trans sm, fun n a hn e => ?_, fun n hn => ?_, fun b o h => ?_, fun b h => ?_, fun n a e => ?_⟩
  · by_cases hl : n < ρ.length
    · rw [List.getElem?_append_left hl] at e
      exact s.own n a hn e
    · rw [List.getElem?_append_right (by omega)] at e
      have q : n - ρ.length = 0 := by
        cases q : n - ρ.length with
        | zero => rfl
        | succ m => rw [q] at e; simp at e
      rw [q] at e
      simp at e
      subst e
      exact s.same.free hp
  · rw [List.getElem?_append_left (by omega)]
    exact s.pre n hn
  · obtain ⟨h1, h2⟩ := s.pin b o h
    refine ⟨sm _ _ h1, fun n u hn e1 e2 => ?_⟩
    by_cases hl : n < ρ.length
    · rw [List.getElem?_append_left hl] at e1
      rw [List.getElem?_append_left (by rw [← cf.len]; exact hl)] at e2
      exact h2 n u hn e1 e2
    · rw [List.getElem?_append_right (by omega)] at e1
      have q : n - ρ.length = 0 := by
        cases q : n - ρ.length with
        | zero => rfl
        | succ m => rw [q] at e1; simp at e1
      rw [q] at e1
      simp at e1
      subst e1
      rw [hp] at h1; cases h1
  · obtain ⟨h1, h2⟩ := s.dat b h
    refine ⟨fun z => ?_, fun z => ?_⟩
    · cases e : H b with
      | none => exact h1 e
      | some u => rw [sm _ _ e] at z; cases z
    · rcases (mu_push rfl cf.len).mp z with e | z
      · subst e; exact h1 hp
      · exact h2 z
  · have := s.beg n a e
    rw [List.getElem?_append_left (List.getElem?_eq_some_iff.mp this).1]
    exact this
end
theorem dctAt_some {lo : Nat} {env : Env} {S : Sto} {i n : Nat} {kvs : List (PyData × PyData)} (h : dctAt lo env S i = some (n, kvs)) : env[i]? = some (some (.r n)) ∧ lo ≤ n ∧ S[n]? = some (.dct kvs) := by
  unfold dctAt at h
  split at h
  · rename_i m e
    split at h
    · rename_i hl
      split at h
      · rename_i ys e2
        cases h
        exact ⟨e, hl, e2⟩
      · cases h
    · cases h
  · cases h
section
variable {X : Cx} {O : Orc} {k : Ck} {sc : Scope} {lo fu : Nat} {W : WX} {B : Fr0} {P : Addr → HO → Prop} {Z : Addr → Prop} {A : List Addr} {a b c tg : Expr} {ea eb ec : E} {pos : Pos}
theorem q_dput {i : Nat} {x : Str} {px sp : Pos} (ok : XOk X O k sc sc) (h1 : k.N[i]? = some x) (h2 : visB sc x = true) (h3 : (x == ("__debug__" : Str)) = false) (h4 : (x == ("__classdict__" : Str)) = false) (hn : NoSl a) (hsw : swapsWith b (some (.Subscript (.Name x px) a sp)) pos.line X.env = pure false) (ha : PE X a (tE (fm X O lo W) ea)) (hb : PE X b (tE (fm X O lo W) eb)) :
    PS X (.Assign [.Subscript (.Name x px) a sp] b pos) (tS (fm X O lo W) B P Z A fu (.dput i ea eb)) := by
  have pn : PE X (.Name x px) (tVar i) := pe_var (i := i) (by rw [ok.N]; exact h1) (by rw [ok.sc]; exact vis_of h2) h3 h4
  refine PS_imp (ps_nput (by have := ok.hu; omega) pn ha hb hsw) fun D σ H ⟨env, ρ, S, sv, h⟩ => ?_
  simp only [exC] at h
  obtain ⟨⟨n, ks0⟩, e0, h0⟩ := PoS.opt h
  obtain ⟨g1, g2, g3⟩ := dctAt_some e0
  obtain ⟨v0, q1, p, q2, qv⟩ := sv.fs.er.at_ i _ g1
  subst qv
  refine ⟨env, ρ, S, B.Y, sv.fs, PoS.rs sv h0 fun w S1 v H1 _ st cf rw sv1 h1 => ?_⟩
  cases e4 : toD lo w S1 with
  | no => rw [show toD (fm X O lo W).lo w S1 = _ from e4] at h1; exact h1.elim
  | ex c S2 => exact (toD_nex e4).elim
  | ok z S2 =>
    rw [show toD (fm X O lo W).lo w S1 = _ from e4] at h1
    obtain ⟨st2, cf2, r2⟩ := toD_ok cf rw e4
    have sv2 := sv1.step st2 cf2
    refine ⟨.ref p, q1, env, ρ, S2, B.Y, sv2.fs, PoS.rs sv2 h1 fun x S3 y H3 _ st3 cf3 rw3 sv3 h3 => ?_⟩
    obtain ⟨x', e5, h3⟩ := PoS.opt h3
    obtain ⟨key, e6, h3⟩ := PoS.opt h3
    obtain ⟨⟨n', kvs⟩, e7, h3⟩ := PoS.opt h3
    obtain ⟨g4, g5, g6⟩ := dctAt_some e7
    rw [g1] at g4
    cases g4
    simp only at h3
    split at h3
    · rename_i hz
      obtain ⟨xs, k2, k3⟩ := (sv3.fs.cf.ent n p _ q2 g6).dct _ rfl
      have rv := st3.rp r2
      have hlen : xs.length = kvs.length := (Paired.length k3).symm
      cases x' with
      | tuple ds =>
        simp only [keyT, Option.bind_eq_some_iff] at e6
        obtain ⟨k', w1, w2⟩ := e6
        split at w2
        · rename_i h8
          cases w2
          have hv := Vw.of cf3 rw3 e5
          cases hv with
          | rp hv =>
            cases hv with
            | tup l q =>
              refine ⟨p, _, rfl, ⟨mu ρ S3 B.Y, xs, _, .tuple ds, key, rfl, k2, k3.nks, .tup l q, w1, h8, by rw [hlen, ← lim_eq]; omega, rfl⟩, h3 _ _ ρ (sv3.writeD g5 q2 g6 k2 (k3.put w1 h8 (.tup l q) rv))⟩
        · cases w2
      | _ => cases e6
    · exact h3.elim
/-- x = {} -/
theorem q_dnew {i : Nat} {x : Str} {px p2 : Pos} (ok : XOk X O k sc sc) (h1 : k.N[i]? = some x) (h2 : locB sc x = true) :
    PS X (.Assign [.Name x px] (.Dict [] [] p2) pos) (tS (fm X O lo W) B P Z A fu (.dnew i)) := by
  obtain ⟨l1, l2⟩ := ok.st x h2
  refine PS_imp (ps_set (i := i) ok.nd (by rw [ok.N]; exact h1) l1 (pe_nnew (X := X)) rfl l2) fun D σ H ⟨env, ρ, S, sv, h⟩ => ?_
  simp only [exC] at h
  exact fun p hp => h _ _ _ (sv.pushD hp .nil)
end
end Rf
namespace Rf
open PySem PySem.Spec PyProof.Rows L2
/-! ### several values stored at once, new lists among them -/
section
variable {K : Frag} {H H' : Hp} {ρ Y Y' N : List Addr} {S S' : Sto} {M M' : Pr} {lo : Nat}
theorem lr_anti (h : ∀ a, M' a → M a) : ∀ a xs, LR K H M a xs → LR K H M' a xs := fun a xs l => l.elim (fun l => .inl ⟨l.1, fun z => l.2 (h a z)⟩) .inr
theorem rp_anti (h : ∀ a, M' a → M a) {v : V} {d : PyData} (r : Rp K H M v d) : Rp K H M' v d := Rp.mono (lr_anti h) (fun _ _ q => q) d v r
theorem rpa_anti (h : ∀ a, M' a → M a) {v : List V} {d : List PyData} (r : RpA K H M v d) : RpA K H M' v d := RpA.mono (lr_anti h) (fun _ _ q => q) d v r
theorem rw_anti (h : ∀ a, M' a → M a) {v : V} {w : Wd} (r : Rw K H ρ M v w) : Rw K H ρ M' v w := by
  cases w with
  | d x => exact rp_anti h r
  | r n => exact r
theorem mu_subY (h : ∀ a ∈ Y, a ∈ Y') (a : Addr) (m : mu ρ S Y a) : mu ρ S Y' a := m.elim (fun z => .inl (h a z)) .inr
theorem Cf.sub (c : Cf ω K H ρ S Y') (h : ∀ a ∈ Y, a ∈ Y') : Cf ω K H ρ S Y :=
  ⟨c.len, c.nd, fun a q => c.alive a (h a q), fun a q z => c.sep a q (h a z), fun n a o e1 e2 => (c.ent n a o e1 e2).mono (lr_anti (mu_subY h)) (fun _ _ q => q) fun _ e => e⟩
theorem Fs.sub {F : Fm} {σ : L2.St} {env : Env} (f : Fs F σ H env ρ S Y') (h : ∀ a ∈ Y, a ∈ Y') : Fs F σ H env ρ S Y :=
  ⟨f.cf.sub h, f.er.len, fun i w e => let ⟨v, e1, r⟩ := f.er.at_ i w e; ⟨v, e1, rw_anti (mu_subY h) r⟩⟩
/-- later: new objects, lists that became data, addresses that are reserved now -/
theorem lr_later (st : Ste lo H S H' S') (hN : ∀ p ∈ N, H p = none) (hY : ∀ a ∈ Y', a ∈ N ∨ a ∈ Y) : ∀ a xs, LR K H (mu ρ S Y) a xs → LR K H' (mu ρ S' Y') a xs := fun a xs l => by
  rcases l with ⟨l1, l2⟩ | l
  · refine .inl ⟨rd_same st.same l1, fun z => ?_⟩
    rcases z with z | z
    · rcases hY a z with z | z
      · rcases l1 with l1 | ⟨o, l1⟩ <;> (rw [hN a z] at l1; cases l1)
      · exact l2 (.inl z)
    · exact l2 (st.mu (Y := Y) (.inr z))
  · exact .inr l
theorem rp_later (st : Ste lo H S H' S') (hN : ∀ p ∈ N, H p = none) (hY : ∀ a ∈ Y', a ∈ N ∨ a ∈ Y) {v : V} {d : PyData} (r : Rp K H (mu ρ S Y) v d) : Rp K H' (mu ρ S' Y') v d := Rp.mono (lr_later st hN hY) (sqT_same st.same) d v r
theorem rpa_later (st : Ste lo H S H' S') (hN : ∀ p ∈ N, H p = none) (hY : ∀ a ∈ Y', a ∈ N ∨ a ∈ Y) {v : List V} {d : List PyData} (r : RpA K H (mu ρ S Y) v d) : RpA K H' (mu ρ S' Y') v d := RpA.mono (lr_later st hN hY) (sqT_same st.same) d v r
theorem rw_later (st : Ste lo H S H' S') (hN : ∀ p ∈ N, H p = none) (hY : ∀ a ∈ Y', a ∈ N ∨ a ∈ Y) {v : V} {w : Wd} (r : Rw K H ρ (mu ρ S Y) v w) : Rw K H' ρ (mu ρ S' Y') v w := by
  cases w with
  | d x => exact rp_later st hN hY r
  | r n => exact r
theorem Fs.later {F : Fm} {σ : L2.St} {env : Env} (f : Fs F σ H env ρ S Y) (st : Ste lo H S H' S') (hN : ∀ p ∈ N, H p = none) (hY : ∀ a ∈ Y', a ∈ N ∨ a ∈ Y) (c : Cf F.ω F.K H' ρ S' Y') : Fs F σ H' env ρ S' Y' :=
  ⟨c, f.er.len, fun i w e => let ⟨v, e1, r⟩ := f.er.at_ i w e; ⟨v, e1, rw_later st hN hY r⟩⟩
end
inductive Rpo (K : Frag) (H : Hp) (ρ : List Addr) (M : Pr) : List V → List Po1 → List Addr → Prop
  | nil : Rpo K H ρ M [] [] []
  | w {v : V} {x : Wd} {vs : List V} {ps : List Po1} {N : List Addr} : Rw K H ρ M v x → Rpo K H ρ M vs ps N → Rpo K H ρ M (v :: vs) (.w x :: ps) N
  | l {p : Addr} {xs : List V} {ds : List PyData} {vs : List V} {ps : List Po1} {N : List Addr} : H p = some (.lst xs) → RpA K H M xs ds → Rpo K H ρ M vs ps N → Rpo K H ρ M (.ref p :: vs) (.l ds :: ps) (p :: N)
/-- what several expressions give, new lists reserved -/
def PoP (F : Fm) (ρ Y : List Addr) (σ : L2.St) (H : Hp) (S : Sto) (r : Res (List Po1)) (Q : List V → Hp → Prop) : Prop := match r with
  | .no => False
  | .ex c S' => ∀ H' C, Ste F.lo H S H' S' → Cf F.ω F.K H' ρ S' Y → F.mg (Str.ofString c) = some (.ref C) → F.W (.ref C) none σ H'
  | .ok qs S' => ∀ vs H' N, Ste F.lo H S H' S' → Cf F.ω F.K H' ρ S' (N ++ Y) → N.Nodup → (∀ p ∈ N, H p = none) → Rpo F.K H' ρ (mu ρ S' (N ++ Y)) vs qs N → Q vs H'
def tP (F : Fm) (ps : List Pe) : TA := fun σ H Q => ∃ env ρ S Y, Fs F σ H env ρ S Y ∧ PoP F ρ Y σ H S (evP F.O F.lo ps env S) Q
def chkP (k : Ck) (sc : Scope) : List Pe → List Expr → Bool
  | [], [] => true
  | .e a :: r, x :: xs => plainX x && chkE k sc a x && chkP k sc r xs
  | .o a :: r, .List es _ :: xs => decide (a.len ≤ 1000) && chkEs k sc a es && chkP k sc r xs
  | _, _ => false
theorem chkP_plain {k : Ck} {sc : Scope} : ∀ {ps : List Pe} {xs : List Expr}, chkP k sc ps xs = true → xs.all plainX = true
  | [], xs, h => by
    cases xs with
    | nil => rfl
    | cons x xs => simp [chkP] at h
  | .e a :: r, xs, h => by
    cases xs with
    | nil => simp [chkP] at h
    | cons x xs =>
      simp only [chkP, Bool.and_eq_true] at h
      rw [List.all_cons, h.1.1, chkP_plain h.2]; rfl
  | .o a :: r, xs, h => by
    cases xs with
    | nil => simp [chkP] at h
    | cons x xs =>
      cases x <;> simp [chkP] at h
      rw [List.all_cons, chkP_plain h.2]; rfl
section
variable {F : Fm} {ρ Y Y' N : List Addr} {σ : L2.St} {H H' : Hp} {S S' : Sto} {Q : List V → Hp → Prop}
theorem PoP.step {r : Res (List Po1)} (h : PoP F ρ Y σ H S r Q) (st : Ste F.lo H S H' S') : PoP F ρ Y σ H' S' r Q := by
  cases r with
  | no => exact h
  | ex c S1 => exact fun H1 C s1 c1 m => h H1 C (st.trans s1) c1 m
  | ok qs S1 => exact fun vs H1 N s1 c1 nd fr rr => h vs H1 N (st.trans s1) c1 nd (fun p hp => st.same.free (fr p hp)) rr
end
section
variable {X : Cx} {O : Orc} {k : Ck} {sc so : Scope} {lo : Nat} {W : WX}
theorem q_P (hE : ∀ (e : E) (x : Expr), chkE k sc e x = true → PE X x (tE (fm X O lo W) e)) (hA : ∀ (e : Es) (x : List Expr), chkEs k sc e x = true → PA X x (tEs (fm X O lo W) e)) :
    ∀ {ps : List Pe} {xs : List Expr}, chkP k sc ps xs = true → PA X xs (tP (fm X O lo W) ps)
  | [], xs, h => by
    cases xs with
    | cons x xs => simp [chkP] at h
    | nil => exact PA_imp pa_nil fun σ H Q ⟨env, ρ, S, Y, fs, po⟩ => po [] H [] Ste.refl fs.cf List.nodup_nil (fun p hp => absurd hp List.not_mem_nil) .nil
  | .e a :: r, xs, h => by
    cases xs with
    | nil => simp [chkP] at h
    | cons x xs =>
      simp only [chkP, Bool.and_eq_true] at h
      obtain ⟨⟨h1, h2⟩, h3⟩ := h
      refine PA_imp (pa_cons (hE a x h2) (q_P hE hA h3) (star_of h1 _ _)) fun σ H Q ⟨env, ρ, S, Y, fs, po⟩ => ?_
      simp only [evP] at po
      refine ⟨env, ρ, S, Y, fs, ?_⟩
      show Po (fm X O lo W) ρ Y σ (RW (fm X O lo W) ρ Y) H S (ev O lo a env S) _
      cases e1 : ev O lo a env S with
      | no => rw [show ev (fm X O lo W).O (fm X O lo W).lo a env S = _ from e1] at po; exact po
      | ex c S1 => rw [show ev (fm X O lo W).O (fm X O lo W).lo a env S = _ from e1] at po; exact po
      | ok w S1 =>
        rw [show ev (fm X O lo W).O (fm X O lo W).lo a env S = _ from e1] at po
        simp only [bind_ok] at po
        intro v H1 st1 cf1 rw1
        refine ⟨env, ρ, S1, Y, fs.step st1 cf1, ?_⟩
        cases e2 : evP O lo r env S1 with
        | no => rw [show evP (fm X O lo W).O (fm X O lo W).lo r env S1 = _ from e2] at po; exact po
        | ex c S2 => rw [show evP (fm X O lo W).O (fm X O lo W).lo r env S1 = _ from e2] at po; exact fun H2 C s2 c2 m => po H2 C (st1.trans s2) c2 m
        | ok qs S2 =>
          rw [show evP (fm X O lo W).O (fm X O lo W).lo r env S1 = _ from e2] at po
          intro vs H2 N st2 cf2 nd fr rr
          exact po (v :: vs) H2 N (st1.trans st2) cf2 nd (fun p hp => st1.same.free (fr p hp)) (.w (rw_later st2 fr (fun a ha => List.mem_append.mp ha) rw1) rr)
  | .o a :: r, xs, h => by
    cases xs with
    | nil => simp [chkP] at h
    | cons x xs =>
      cases x <;> simp [chkP] at h
      rename_i es p2
      obtain ⟨⟨h1, h2⟩, h3⟩ := h
      refine PA_imp (pa_cons (pe_lst (hA a es h2)) (q_P hE hA h3) (star_of rfl _ _)) fun σ H Q ⟨env, ρ, S, Y, fs, po⟩ => ?_
      simp only [evP] at po
      refine ⟨env, ρ, S, Y, fs, ?_⟩
      show Po (fm X O lo W) ρ Y σ (RWs (fm X O lo W) ρ Y) H S (evs O lo a env S) _
      cases e1 : evs O lo a env S with
      | no => rw [show evs (fm X O lo W).O (fm X O lo W).lo a env S = _ from e1] at po; exact po
      | ex c S1 => rw [show evs (fm X O lo W).O (fm X O lo W).lo a env S = _ from e1] at po; exact po
      | ok ws S1 =>
        rw [show evs (fm X O lo W).O (fm X O lo W).lo a env S = _ from e1] at po
        simp only [bind_ok] at po
        intro vs H1 st1 cf1 rw1
        refine ⟨small_of (by rw [rw1.len, evs_len e1]; exact h1), fun p hp => ?_⟩
        cases e3 : toDs lo ws S1 with
        | no => rw [show toDs (fm X O lo W).lo ws S1 = _ from e3] at po; exact po.elim
        | ex c S2 => exact (toDs_nex e3).elim
        | ok ds S2 =>
          rw [show toDs (fm X O lo W).lo ws S1 = _ from e3] at po
          simp only [bind_ok] at po
          obtain ⟨st2, cf2, r2⟩ := toDs_ok cf1 rw1 e3
          have sm : Same H1 (upd H1 p (.lst vs)) := fun b o e => by rw [upd_ne (ne_of_none e hp)]; exact e
          have st12 := st1.trans st2
          have st3 : Ste lo H S (upd H1 p (.lst vs)) S2 := st12.trans (Ste.of sm)
          have cf3 : Cf X.w X.K (upd H1 p (.lst vs)) ρ S2 (p :: Y) := cf2.res hp sm (by rw [upd_same]; simp)
          have hp0 : H p = none := st12.same.free hp
          have fs3 : Fs (fm X O lo W) σ (upd H1 p (.lst vs)) env ρ S2 (p :: Y) := Fs.later (N := [p]) fs st3 (fun q hq => by rw [List.mem_singleton.mp hq]; exact hp0) (fun a ha => (List.mem_cons.mp ha).imp (fun z => by rw [z]; exact List.mem_singleton.mpr rfl) id) cf3
          refine ⟨env, ρ, S2, p :: Y, fs3, ?_⟩
          show PoP (fm X O lo W) ρ (p :: Y) σ (upd H1 p (.lst vs)) S2 (evP O lo r env S2) _
          cases e2 : evP O lo r env S2 with
          | no => rw [show evP (fm X O lo W).O (fm X O lo W).lo r env S2 = _ from e2] at po; exact po
          | ex c S4 => rw [show evP (fm X O lo W).O (fm X O lo W).lo r env S2 = _ from e2] at po; exact fun H2 C s2 c2 m => po H2 C (st3.trans s2) c2.unres m
          | ok qs S4 =>
            rw [show evP (fm X O lo W).O (fm X O lo W).lo r env S2 = _ from e2] at po
            intro vs' H4 N st4 cf4 nd fr rr
            have hpN : p ∉ N := fun z => by have := fr p z; rw [upd_same] at this; cases this
            have hm : ∀ a, a ∈ (p :: N) ++ Y ↔ a ∈ N ++ (p :: Y) := fun a => by simp only [List.mem_append, List.mem_cons]; rw [or_assoc]; exact or_left_comm
            have em : mu ρ S4 ((p :: N) ++ Y) = mu ρ S4 (N ++ (p :: Y)) := funext fun a => propext ⟨mu_subY (fun a => (hm a).mp) a, mu_subY (fun a => (hm a).mpr) a⟩
            refine po (.ref p :: vs') H4 (p :: N) (st3.trans st4) (cf4.sub fun a => (hm a).mp) (List.nodup_cons.mpr ⟨hpN, nd⟩) (fun q hq => ?_) ?_
            · rcases List.mem_cons.mp hq with e | hq
              · rw [e]; exact hp0
              · exact st3.same.free (fr q hq)
            · rw [em]
              refine .l (st4.same _ _ upd_same) (rpa_later (Y := Y) (N := p :: N) ((Ste.of sm).trans st4) (fun q hq => ?_) (fun a ha => ?_) r2) rr
              · rcases List.mem_cons.mp hq with e | hq
                · rw [e]; exact hp
                · exact sm.free (fr q hq)
              · have := (hm a).mpr ha
                simp only [List.mem_append, List.mem_cons] at this ⊢
                exact this
end
/-! the stores -/
/-- a frame with reserved lists that are not stored yet -/
structure SvN (F : Fm) (B : Fr0) (P : Addr → HO → Prop) (Z : Addr → Prop) (A N : List Addr) (σ : L2.St) (H : Hp) (env : Env) (ρ : List Addr) (S : Sto) : Prop where
  fs : Fs F σ H env ρ S (N ++ B.Y)
  lo : F.lo = B.S.length
  same : Same B.H H
  own : ∀ n a, F.lo ≤ n → ρ[n]? = some a → B.H a = none
  pre : ∀ n, n < F.lo → S[n]? = B.S[n]?
  pin : ∀ b o, P b o → H b = some o ∧ ∀ (n : Nat) u, F.lo ≤ n → ρ[n]? = some b → S[n]? = some u → u.isLst = false
  dat : ∀ b, Z b → H b ≠ none ∧ ¬ mu ρ S B.Y b
  beg : ∀ (n : Nat) a, A[n]? = some a → ρ[n]? = some a
  nd : N.Nodup
  new : ∀ p ∈ N, B.H p = none ∧ p ∉ B.Y ∧ (∀ o, ¬ P p o) ∧ ¬ Z p
section
variable {F : Fm} {B : Fr0} {P P' : Addr → HO → Prop} {Z Z' : Addr → Prop} {A A' N : List Addr} {σ σ1 : L2.St} {H H1 : Hp} {env : Env} {ρ : List Addr} {S S1 : Sto}
theorem SvN.set (s : SvN F B P Z A N σ H env ρ S) {i : Nat} {v : V} {w : Wd} (r : Rw F.K H ρ (mu ρ S (N ++ B.Y)) v w) : SvN F B P Z A N (σ.set i (some v)) H (env.set i (some w)) ρ S :=
  ⟨s.fs.set r, s.lo, s.same, s.own, s.pre, s.pin, s.dat, s.beg, s.nd, s.new⟩
theorem SvN.sv (s : SvN F B P Z A [] σ H env ρ S) : Sv F B P Z A σ H env ρ S := ⟨s.fs, s.lo, s.same, s.own, s.pre, s.pin, s.dat, s.beg⟩
theorem mu_claim {Y : List Addr} {p : Addr} {ds : List PyData} (hl : ρ.length = S.length) : mu (ρ ++ [p]) (S ++ [.lst ds]) Y = mu ρ S (p :: Y) := funext fun a => propext (by
  rw [mu_push rfl hl]
  constructor
  · rintro (h | h | h)
    · exact .inl (by rw [h]; exact List.mem_cons_self ..)
    · exact .inl (List.mem_cons_of_mem _ h)
    · exact .inr h
  · rintro (h | h)
    · exact (List.mem_cons.mp h).imp id .inl
    · exact .inr (.inr h))
/-- a reserved list is the store's from now on, at the name i -/
theorem SvN.claim {p : Addr} {xs : List V} {ds : List PyData} (s : SvN F B P Z A (p :: N) σ H env ρ S) {i : Nat} (hp : H p = some (.lst xs)) (rr : RpA F.K H (mu ρ S (p :: N ++ B.Y)) xs ds) :
    SvN F B P Z A N (σ.set i (some (.ref p))) H (env.set i (some (.r S.length))) (ρ ++ [p]) (S ++ [.lst ds]) := by
  have cf := s.fs.cf
  have em : mu (ρ ++ [p]) (S ++ [.lst ds]) (N ++ B.Y) = mu ρ S (p :: N ++ B.Y) := mu_claim cf.len
  obtain ⟨n1, n2, n3, n4⟩ := s.new p (List.mem_cons_self ..)
  obtain ⟨d1, d2⟩ := List.nodup_cons.mp s.nd
  have pr : p ∉ ρ := fun h => cf.sep p h (by simp)
  have cf' : Cf F.ω F.K H (ρ ++ [p]) (S ++ [.lst ds]) (N ++ B.Y) := by
    refine ⟨by simp [cf.len], ?_, fun a ha => cf.alive a (List.mem_cons_of_mem _ ha), fun a ha => ?_, fun n a o h1 h2 => ?_⟩
    · rw [List.nodup_append]
      exact ⟨cf.nd, by simp, fun a ha b hb e => by simp at hb; subst hb e; exact pr ha⟩
    · rcases List.mem_append.mp ha with h | h
      · exact fun z => cf.sep a h (List.mem_cons_of_mem _ z)
      · rw [List.mem_singleton.mp h]
        exact fun z => (List.mem_append.mp z).elim d1 n2
    · rw [em]
      by_cases hn : n < ρ.length
      · rw [List.getElem?_append_left hn] at h1
        rw [List.getElem?_append_left (by rw [← cf.len]; exact hn)] at h2
        exact cf.ent n a o h1 h2
      · rw [List.getElem?_append_right (by omega)] at h1
        rw [List.getElem?_append_right (by rw [← cf.len]; omega)] at h2
        have q : n - ρ.length = 0 := by
          cases q : n - ρ.length with
          | zero => rfl
          | succ m => rw [q] at h1; simp at h1
        rw [q] at h1
        rw [← cf.len, q] at h2
        simp at h1 h2
        subst h1 h2
        exact .ofL rfl hp rr
  have fs' : Fs F σ H env (ρ ++ [p]) (S ++ [.lst ds]) (N ++ B.Y) := ⟨cf', s.fs.er.len, fun j w e => by
    obtain ⟨v, e1, r⟩ := s.fs.er.at_ j w e
    refine ⟨v, e1, ?_⟩
    cases w with
    | d x => rw [em]; exact r
    | r n =>
      obtain ⟨a, e2, e3⟩ := r
      exact ⟨a, by rw [List.getElem?_append_left (List.getElem?_eq_some_iff.mp e2).1]; exact e2, e3⟩⟩
  have hlo : F.lo ≤ S.length := by
    by_cases h0 : F.lo = 0
    · omega
    · have := s.pre (F.lo - 1) (by omega)
      rw [List.getElem?_eq_getElem (l := B.S) (by have := s.lo; omega)] at this
      have := (List.getElem?_eq_some_iff.mp this).1
      omega
  refine ⟨fs'.set ⟨p, by rw [← cf.len]; simp, rfl⟩, s.lo, s.same, fun n a hn e => ?_, fun n hn => ?_, fun b o h => ?_, fun b h => ?_, fun n a e => ?_, d2, fun q hq => s.new q (List.mem_cons_of_mem _ hq)⟩
  · by_cases hl : n < ρ.length
    · rw [List.getElem?_append_left hl] at e
      exact s.own n a hn e
    · rw [List.getElem?_append_right (by omega)] at e
      have q : n - ρ.length = 0 := by
        cases q : n - ρ.length with
        | zero => rfl
        | succ m => rw [q] at e; simp at e
      rw [q] at e
      simp at e
      subst e
      exact n1
  · rw [List.getElem?_append_left (by omega)]
    exact s.pre n hn
  · obtain ⟨h1, h2⟩ := s.pin b o h
    refine ⟨h1, fun n u hn e1 e2 => ?_⟩
    by_cases hl : n < ρ.length
    · rw [List.getElem?_append_left hl] at e1
      rw [List.getElem?_append_left (by rw [← cf.len]; exact hl)] at e2
      exact h2 n u hn e1 e2
    · rw [List.getElem?_append_right (by omega)] at e1
      have q : n - ρ.length = 0 := by
        cases q : n - ρ.length with
        | zero => rfl
        | succ m => rw [q] at e1; simp at e1
      rw [q] at e1
      simp at e1
      subst e1
      exact absurd h (n3 o)
  · obtain ⟨h1, h2⟩ := s.dat b h
    refine ⟨h1, ?_⟩
    rw [mu_push rfl cf.len]
    rintro (z | z)
    · subst z; exact n4 h
    · exact h2 z
  · have := s.beg n a e
    rw [List.getElem?_append_left (List.getElem?_eq_some_iff.mp this).1]
    exact this
/-- what the state of names is, behind the stores -/
def setP : List Nat → List V → L2.St → L2.St
  | i :: is, v :: vs, σ => setP is vs (σ.set i (some v))
  | _, _, σ => σ
theorem SvN.stores : ∀ {is : List Nat} {vs : List V} {qs : List Po1} {N : List Addr} {σ : L2.St} {env : Env} {ρ : List Addr} {S : Sto}, is.length = vs.length → SvN F B P Z A N σ H env ρ S → Rpo F.K H ρ (mu ρ S (N ++ B.Y)) vs qs N →
    ∃ ρ', Sv F B P Z A (setP is vs σ) H (storeP is qs env S).1 ρ' (storeP is qs env S).2
  | [], [], qs, N, σ, env, ρ, S, _, sv, r => by
    cases r
    exact ⟨ρ, sv.sv⟩
  | [], _ :: _, _, _, _, _, _, _, h, _, _ => by simp at h
  | _ :: _, [], _, _, _, _, _, _, h, _, _ => by simp at h
  | i :: is, v :: vs, qs, N, σ, env, ρ, S, h, sv, r => by
    cases r with
    | @w _ x _ ps _ r1 r2 =>
      have q := SvN.stores (is := is) (vs := vs) (qs := ps) (σ := σ.set i (some v)) (env := env.set i (some x)) (by simpa using h) (sv.set r1) r2
      exact q
    | @l p xs ds _ ps N' h1 h2 r2 =>
      have s2 := sv.claim (i := i) h1 h2
      suffices q : Rpo F.K H (ρ ++ [p]) (mu (ρ ++ [p]) (S ++ [.lst ds]) (N' ++ B.Y)) vs ps N' from (show _ from SvN.stores (is := is) (vs := vs) (qs := ps) (σ := σ.set i (some (.ref p))) (env := env.set i (some (.r S.length))) (S := S ++ [So.lst ds]) (by simpa using h) s2 q)
      have em : mu (ρ ++ [p]) (S ++ [.lst ds]) (N' ++ B.Y) = mu ρ S (p :: N' ++ B.Y) := mu_claim sv.fs.cf.len
      rw [em]
      have ext : ∀ {vs : List V} {ps : List Po1} {M : List Addr} {Mu : Pr}, Rpo F.K H ρ Mu vs ps M → Rpo F.K H (ρ ++ [p]) Mu vs ps M := by
        intro vs ps M Mu r
        induction r with
        | nil => exact .nil
        | w r1 _ ih =>
          refine .w ?_ ih
          rename_i x _ _ _ _
          cases x with
          | d y => exact r1
          | r n =>
            obtain ⟨a, e2, e3⟩ := r1
            exact ⟨a, by rw [List.getElem?_append_left (List.getElem?_eq_some_iff.mp e2).1]; exact e2, e3⟩
        | l e1 e2 _ ih => exact .l e1 e2 ih
      exact ext r2
end
section
variable {X : Cx} {O : Orc} {k : Ck} {sc : Scope} {lo fu : Nat} {W : WX} {B : Fr0} {P : Addr → HO → Prop} {Z : Addr → Prop} {A : List Addr} {a b c tg : Expr} {ea eb ec : E} {pos : Pos}
theorem evP_len {O : Orc} {lo : Nat} : ∀ {ps : List Pe} {env : Env} {S S' : Sto} {qs : List Po1}, evP O lo ps env S = .ok qs S' → qs.length = ps.length
  | [], _, _, _, _, e => by simp only [evP] at e; cases e; rfl
  | .e a :: r, env, S, S', qs, e => by
    simp only [evP] at e
    cases e1 : ev O lo a env S with
    | no => rw [e1] at e; cases e
    | ex c S1 => rw [e1] at e; cases e
    | ok w S1 =>
      rw [e1] at e
      simp only [bind_ok] at e
      cases e2 : evP O lo r env S1 with
      | no => rw [e2] at e; cases e
      | ex c S2 => rw [e2] at e; cases e
      | ok ps S2 => rw [e2] at e; cases e; simp [evP_len e2]
  | .o a :: r, env, S, S', qs, e => by
    simp only [evP] at e
    cases e1 : evs O lo a env S with
    | no => rw [e1] at e; cases e
    | ex c S1 => rw [e1] at e; cases e
    | ok w S1 =>
      rw [e1] at e
      simp only [bind_ok] at e
      cases e3 : toDs lo w S1 with
      | no => rw [e3] at e; cases e
      | ex c S2 => rw [e3] at e; cases e
      | ok w' S1' =>
        rw [e3] at e
        simp only [bind_ok] at e
        cases e2 : evP O lo r env S1' with
        | no => rw [e2] at e; cases e
        | ex c S2 => rw [e2] at e; cases e
        | ok ps S2 => rw [e2] at e; cases e; simp [evP_len e2]
theorem Rpo.len {K : Frag} {H : Hp} {ρ : List Addr} {M : Pr} {vs : List V} {qs : List Po1} {N : List Addr} (r : Rpo K H ρ M vs qs N) : vs.length = qs.length := by
  induction r with
  | nil => rfl
  | w _ _ ih => simp [ih]
  | l _ _ _ ih => simp [ih]
theorem i_parG {is : List Nat} {ps : List Pe} {D : Ends} {σ : L2.St} {H : Hp} (hl : is.length = ps.length) (h : tS (fm X O lo W) B P Z A fu (.parG is ps) D σ H) : tP (fm X O lo W) ps σ H fun vs H1 => vs.length = is.length ∧ D.nx (setP is vs σ) H1 := by
  obtain ⟨env, ρ, S, sv, h⟩ := h
  simp only [exC] at h
  refine ⟨env, ρ, S, B.Y, sv.fs, ?_⟩
  cases e : evP O lo ps env S with
  | no => rw [show evP (fm X O lo W).O (fm X O lo W).lo ps env S = _ from e] at h; exact h
  | ex c S1 => rw [show evP (fm X O lo W).O (fm X O lo W).lo ps env S = _ from e] at h; exact fun H' C st cf m => h σ H' ρ C (sv.step st cf) m
  | ok qs S1 =>
    rw [show evP (fm X O lo W).O (fm X O lo W).lo ps env S = _ from e] at h
    intro vs H' N st cf nd fr rr
    have h : ∀ σ H ρ, Sv (fm X O lo W) B P Z A σ H (storeP is qs env S1).1 ρ (storeP is qs env S1).2 → D.nx σ H := h
    have sv1 := sv.step st (cf.sub fun a ha => List.mem_append_right _ ha)
    have fs' := Fs.later (N := N) sv.fs st fr (fun a ha => List.mem_append.mp ha) cf
    have svn : SvN (fm X O lo W) B P Z A N σ H' env ρ S1 := by
      refine ⟨fs', sv1.lo, sv1.same, sv1.own, sv1.pre, sv1.pin, sv1.dat, sv1.beg, nd, fun p hp => ⟨sv.same.free (fr p hp), fun z => sv.fs.cf.alive p z (fr p hp), fun o z => ?_, fun z => ?_⟩⟩
      · have := (sv.pin p o z).1
        rw [fr p hp] at this; cases this
      · exact (sv.dat p z).1 (fr p hp)
    have hv : vs.length = is.length := by rw [rr.len, evP_len e, hl]
    obtain ⟨ρ', q⟩ := SvN.stores hv.symm svn rr
    exact ⟨hv, h _ _ ρ' q⟩
theorem q_parG2 {i j : Nat} {x y : Str} {px py pt pt2 : Pos} {kt k2} {ps : List Pe} (ok : XOk X O k sc sc) (hp : ps.length = 2) (h1 : k.N[i]? = some x) (h2 : k.N[j]? = some y) (hij : i ≠ j) (h3 : X.env.scope.names.lookup x = some .local) (h4 : X.env.scope.names.lookup y = some .local)
    (ha : PA X [a, b] (tP (fm X O lo W) ps)) (hw : swappedStores [.Tuple [.Name x px, .Name y py] kt pt] (.Tuple [a, b] k2 pt2) X.env = pure (some [x, y])) :
    PS X (.Assign [.Tuple [.Name x px, .Name y py] kt pt] (.Tuple [a, b] k2 pt2) pos) (tS (fm X O lo W) B P Z A fu (.parG [i, j] ps)) := by
  refine PS_imp (ps_par (i := i) (j := j) ok.calm ok.nd (by rw [ok.N]; exact h1) (by rw [ok.N]; exact h2) hij h3 h4 ha hw) fun D σ H h => ?_
  obtain ⟨env, ρ, S, Y, fs, po⟩ := i_parG (by rw [hp]; rfl) h
  refine ⟨env, ρ, S, Y, fs, ?_⟩
  cases e : evP (fm X O lo W).O (fm X O lo W).lo ps env S with
  | no => rw [e] at po; exact po
  | ex c S1 => rw [e] at po; exact po
  | ok qs S1 =>
    rw [e] at po
    intro vs H' N st cf nd fr rr
    obtain ⟨hv, q⟩ := po vs H' N st cf nd fr rr
    match vs, hv, q with
    | [v, w], _, q => exact ⟨v, w, rfl, q⟩
theorem q_parG3 {i j l : Nat} {x y z : Str} {px py pz pt pt2 : Pos} {kt k2} {ps : List Pe} (ok : XOk X O k sc sc) (hp : ps.length = 3) (h1 : k.N[i]? = some x) (h2 : k.N[j]? = some y) (h5 : k.N[l]? = some z) (hij : i ≠ j) (hil : i ≠ l) (hjl : j ≠ l)
    (h3 : X.env.scope.names.lookup x = some .local) (h4 : X.env.scope.names.lookup y = some .local) (h6 : X.env.scope.names.lookup z = some .local)
    (ha : PA X [a, b, c] (tP (fm X O lo W) ps)) (hw : swappedStores [.Tuple [.Name x px, .Name y py, .Name z pz] kt pt] (.Tuple [a, b, c] k2 pt2) X.env = pure (some [x, y, z])) :
    PS X (.Assign [.Tuple [.Name x px, .Name y py, .Name z pz] kt pt] (.Tuple [a, b, c] k2 pt2) pos) (tS (fm X O lo W) B P Z A fu (.parG [i, j, l] ps)) := by
  refine PS_imp (ps_par3 (i := i) (j := j) (l := l) ok.calm ok.nd (by rw [ok.N]; exact h1) (by rw [ok.N]; exact h2) (by rw [ok.N]; exact h5) hij hil hjl h3 h4 h6 ha hw) fun D σ H h => ?_
  obtain ⟨env, ρ, S, Y, fs, po⟩ := i_parG (by rw [hp]; rfl) h
  refine ⟨env, ρ, S, Y, fs, ?_⟩
  cases e : evP (fm X O lo W).O (fm X O lo W).lo ps env S with
  | no => rw [e] at po; exact po
  | ex c S1 => rw [e] at po; exact po
  | ok qs S1 =>
    rw [e] at po
    intro vs H' N st cf nd fr rr
    obtain ⟨hv, q⟩ := po vs H' N st cf nd fr rr
    match vs, hv, q with
    | [v, w, u], _, q => exact ⟨v, w, u, rfl, q⟩
end
end Rf
namespace Rf
open PySem PySem.Spec PyProof.Rows L2
/-! try: .. except cov as n: the place of the class among those that the suite asks for -/
/-- what must be known of the classes: cov catches them, isinstance tells them apart -/
structure HxOk (K : Frag) (mg : Str → Option Value) (cov : String) (cs : List String) : Prop where
  cat : ∃ CE, mg (Str.ofString cov) = some (.ref CE) ∧ ∀ c ∈ cs, ∀ C, mg (Str.ofString c) = some (.ref C) → PySem.W.exmOne K (.ref C) (.ref CE) = some true
  cls : ∀ c ∈ cs, ∀ C, mg (Str.ofString c) = some (.ref C) → ExcC K C
  isi : ∀ c ∈ cs, ∀ c' ∈ cs, ∃ C', mg (Str.ofString c') = some (.ref C') ∧ ∀ C, mg (Str.ofString c) = some (.ref C) → PySem.W.kitOne K (.ref C) (.ref C') = some (decide (c = c'))
def dIsi : Expr → Option (Str × Str × Str)
  | .Call (.Name y _) [.Name n _, .Name c _] [] _ => some (y, n, c)
  | _ => none
theorem dIsi_eq {e : Expr} {y n c} (h : dIsi e = some (y, n, c)) : ∃ p1 p2 p3 p4, e = .Call (.Name y p1) [.Name n p2, .Name c p3] [] p4 := by
  unfold dIsi at h
  split at h
  · cases h; exact ⟨_, _, _, _, rfl⟩
  · cases h
def isiB (sc : Scope) (n : Str) (c : String) (e : Expr) : Bool := oTst (dIsi e) fun (y, m, z) => (y == ("isinstance" : Str)) && glB sc y && (m == n) && (z == Str.ofString c) && glB sc z
def isisB (sc : Scope) (n : Str) : List String → List Expr → Bool
  | [], [] => true
  | c :: cs, e :: es => isiB sc n c e && isisB sc n cs es
  | _, _ => false
def dLst : Expr → Option (List Expr × Pos)
  | .List es p => some (es, p)
  | _ => none
theorem dLst_eq {e : Expr} {es p} (h : dLst e = some (es, p)) : e = .List es p := by
  unfold dLst at h
  split at h
  · cases h; rfl
  · cases h
def dispB (sc : Scope) (n : Str) (cs : List String) (e : Expr) : Bool := decide (cs.length ≤ 100) && oTst (dLst e) fun (es, _) => isisB sc n cs es
/-- fl + [..] -/
def dPlus : Expr → Option (Str × Expr)
  | .BinOp (.Name x _) .Add y _ => some (x, y)
  | _ => none
theorem dPlus_eq {e : Expr} {x y} (h : dPlus e = some (x, y)) : ∃ p1 p2, e = .BinOp (.Name x p1) .Add y p2 := by
  unfold dPlus at h
  split at h
  · cases h; exact ⟨_, _, rfl⟩
  · cases h
def plusB (sc : Scope) (n fl : Str) (cs : List String) (e : Expr) : Bool := oTst (dPlus e) fun (x, y) => (x == fl) && dispB sc n cs y
def dAsn : Stmt → Option (Str × Expr)
  | .Assign [.Name x _] e _ => some (x, e)
  | _ => none
theorem dAsn_eq {s : Stmt} {x e} (h : dAsn s = some (x, e)) : ∃ p1 p2, s = .Assign [.Name x p1] e p2 := by
  unfold dAsn at h
  split at h
  · cases h; exact ⟨_, _, rfl⟩
  · cases h
/-- return (..).index(True) -/
def dIdx : Stmt → Option (Expr × Str × Pos × Pos)
  | .Return (some (.Call (.Attribute e m ap) [.Constant (.bool true) _ _] [] cp)) _ => some (e, m, ap, cp)
  | _ => none
theorem dIdx_eq {s : Stmt} {e m ap cp} (h : dIdx s = some (e, m, ap, cp)) : ∃ j p1 p2, s = .Return (some (.Call (.Attribute e m ap) [.Constant (.bool true) j p1] [] cp)) p2 := by
  unfold dIdx at h
  split at h
  · cases h; exact ⟨_, _, _, rfl⟩
  · cases h
/-- the suite behind the first flags -/
def moreB (sc : Scope) (n fl : Str) : List (List String) → List Stmt → Bool
  | [cs], [s] => oTst (dIdx s) fun (e, m, ap, cp) => plusB sc n fl cs e && (m == ("index" : Str)) && (ap.endLine == cp.line)
  | cs :: Ls, s :: ss => oTst (dAsn s) fun (x, e) => (x == fl) && plusB sc n fl cs e && moreB sc n fl Ls ss
  | _, _ => false
def suiteB (sc : Scope) (n fl : Str) : List (List String) → List Stmt → Bool
  | cs :: Ls, s :: ss => (oTst (dAsn s) fun (x, e) => (x == fl) && dispB sc n cs e) && moreB sc n fl Ls ss
  | _, _ => false
def notComp : Expr → Bool
  | .ListComp .. => false
  | e => plainX e
theorem swp_of {e : Expr} (h : notComp e = true) (t : Option Expr) (l : Nat) (env : PySem.Env) : swapsWith e t l env = pure false := by
  cases e <;> first | rfl | cases h
/-- what the suite's frame is like -/
structure Hot (X : Cx) (sc : Scope) (n fl : Str) (i j : Nat) (a D : Addr) : Prop where
  nd : X.N.Nodup
  hi : X.N[i]? = some n
  hj : X.N[j]? = some fl
  ij : i ≠ j
  hsc : X.env.scope = sc
  ln : sc.names.lookup n = some .local
  lf : sc.names.lookup fl = some .local
  db : (n == ("__debug__" : Str)) = false
  dc : (n == ("__classdict__" : Str)) = false
  fb : (fl == ("__debug__" : Str)) = false
  fc : (fl == ("__classdict__" : Str)) = false
  isn : X.mg "isinstance" = none
  isi : CallR X (.builtin "isinstance") (rIsE X.K D a)
section
variable {X : Cx} {sc : Scope} {n fl : Str} {i j : Nat} {a D : Addr} {pos : Pos}
theorem glX (hs : X.env.scope = sc) {x : Str} (h : glB sc x = true) : Gl X x ∧ (x == ("__debug__" : Str)) = false := by
  unfold glB at h
  obtain ⟨h1, h2⟩ := Bool.and_eq_true_iff.mp h
  refine ⟨?_, by simpa using h2⟩
  show X.env.scope.names.lookup x = some .globalImplicit
  rw [hs]
  split at h1
  · assumption
  · cases h1
/-- the flag of a class -/
def Flg (X : Cx) (D : Addr) (f : String → Bool) (c : String) : Prop := ∃ C, X.mg (Str.ofString c) = some (.ref C) ∧ PySem.W.kitOne X.K (.ref D) (.ref C) = some (f c)
theorem h_isi (ho : Hot X sc n fl i j a D) {f : String → Bool} {c : String} {e : Expr} (hf : Flg X D f c) (h : isiB sc n c e = true) : PE X e (fun σ H Q => σ[i]? = some (some (.ref a)) ∧ Q (.bl (f c)) H) ∧ plainX e = true := by
  obtain ⟨⟨y, m, z⟩, e1, h⟩ := oTst_eq h
  obtain ⟨p1, p2, p3, p4, rfl⟩ := dIsi_eq e1
  obtain ⟨h, h5⟩ := Bool.and_eq_true_iff.mp h
  obtain ⟨h, h4⟩ := Bool.and_eq_true_iff.mp h
  obtain ⟨h, h3⟩ := Bool.and_eq_true_iff.mp h
  obtain ⟨h1, h2⟩ := Bool.and_eq_true_iff.mp h
  have h1 : y = ("isinstance" : Str) := by simpa using h1
  have h3 : m = n := by simpa using h3
  have h4 : z = Str.ofString c := by simpa using h4
  obtain ⟨g1, g2⟩ := glX ho.hsc h2
  obtain ⟨g3, g4⟩ := glX ho.hsc h5
  subst h1 h3 h4
  obtain ⟨C, hm, hk⟩ := hf
  refine ⟨PE_imp (pe_callB ho.isi g1 ho.isn (by decide +kernel) (pa_cons (pe_var (i := i) ho.hi (by rw [ho.hsc]; exact .inl ho.ln) ho.db ho.dc) (pa_cons (pe_glob (v := .ref C) g3 hm rfl g4) pa_nil rfl) rfl) (by decide) g2 rfl rfl) ?_, rfl⟩
  rintro σ H Q ⟨h1, h2⟩
  exact ⟨.ref a, h1, .ref C, .ref C, f c, rfl, fun u r => r, hk, h2⟩
theorem h_isis (ho : Hot X sc n fl i j a D) {f : String → Bool} : ∀ {cs : List String} {es : List Expr}, (∀ c ∈ cs, Flg X D f c) → isisB sc n cs es = true → PA X es (fun σ H Q => σ[i]? = some (some (.ref a)) ∧ Q (cs.map fun c => .bl (f c)) H)
  | [], [], _, _ => PA_imp pa_nil fun σ H Q h => h.2
  | c :: cs, e :: es, hf, h => by
    obtain ⟨h1, h2⟩ := Bool.and_eq_true_iff.mp h
    obtain ⟨q1, q2⟩ := h_isi ho (hf c (List.mem_cons_self ..)) h1
    exact PA_imp (pa_cons q1 (h_isis ho (fun c' h' => hf c' (List.mem_cons_of_mem _ h')) h2) (star_of q2 _ _)) fun σ H Q h => ⟨h.1, h.1, h.2⟩
/-- a new list of flags -/
def tFl (i : Nat) (a : Addr) (bs : List V) : TE := fun σ H Q => σ[i]? = some (some (.ref a)) ∧ ∀ p, H p = none → Q (.ref p) (upd H p (.lst bs))
theorem h_disp (ho : Hot X sc n fl i j a D) {f : String → Bool} {cs : List String} {e : Expr} (hf : ∀ c ∈ cs, Flg X D f c) (h : dispB sc n cs e = true) : PE X e (tFl i a (cs.map fun c => .bl (f c))) ∧ plainX e = true ∧ notComp e = true := by
  obtain ⟨h0, h⟩ := Bool.and_eq_true_iff.mp h
  obtain ⟨⟨es, p⟩, e1, h⟩ := oTst_eq h
  have e1 := dLst_eq e1
  subst e1
  have h0 := of_decide_eq_true h0
  exact ⟨PE_imp (pe_lst (h_isis ho hf h)) fun σ H Q h => ⟨h.1, small_of (by rw [List.length_map]; omega), h.2⟩, rfl, rfl⟩
/-- the flags so far -/
def FlAt (j : Nat) (bs : List V) (σ : L2.St) (H : Hp) : Prop := ∃ p, σ[j]? = some (some (.ref p)) ∧ H p = some (.lst bs)
theorem h_plus (ho : Hot X sc n fl i j a D) {f : String → Bool} {cs : List String} {bs : List V} {e : Expr} (hf : ∀ c ∈ cs, Flg X D f c) (hl : bs.length + cs.length ≤ 1000) (h : plusB sc n fl cs e = true) :
    PE X e (fun σ H Q => σ[i]? = some (some (.ref a)) ∧ FlAt j bs σ H ∧ ∀ H1, Same H H1 → ∀ p, H1 p = none → Q (.ref p) (upd H1 p (.lst (bs ++ cs.map fun c => .bl (f c))))) ∧ plainX e = true ∧ notComp e = true := by
  obtain ⟨⟨x, y⟩, e1, h⟩ := oTst_eq h
  obtain ⟨p1, p2, rfl⟩ := dPlus_eq e1
  obtain ⟨h1, h2⟩ := Bool.and_eq_true_iff.mp h
  have h1 : x = fl := by simpa using h1
  subst h1
  obtain ⟨q1, q2, _⟩ := h_disp ho hf h2
  refine ⟨PE_imp (pe_op cat_lists (pe_var (i := j) ho.hj (by rw [ho.hsc]; exact .inl ho.lf) ho.fb ho.fc) q1) ?_, rfl, rfl⟩
  rintro σ H Q ⟨h3, ⟨p, h4, h5⟩, h6⟩
  refine ⟨.ref p, h4, h3, fun p' hp' => ?_⟩
  have sm : Same H (upd H p' (.lst (cs.map fun c => V.bl (f c)))) := fun b o e => by rw [upd_ne (ne_of_none e hp')]; exact e
  refine ⟨p, p', bs, cs.map fun c => .bl (f c), rfl, rfl, SqL.of (sm _ _ h5), SqL.of upd_same, ?_, fun p2 hp2 => h6 _ sm p2 hp2⟩
  refine small_of ?_
  rw [List.length_map]; exact hl
/-- the place of the first flag that is set -/
theorem first_flag {f : String → Bool} {c : String} (hf : ∀ c', f c' = decide (c = c')) : ∀ {l : List String} {m : Nat}, placeOf c l = some m → (l.map fun c => V.bl (f c))[m]? = some (.bl true) ∧ ∀ (q : Nat) (z : V), q < m → (l.map fun c => V.bl (f c))[q]? = some z → eqV z (.bl true) = false
  | [], m, h => by cases h
  | x :: r, m, h => by
    simp only [placeOf] at h
    split at h
    · rename_i e
      cases h
      refine ⟨?_, fun q z hq => absurd hq (by omega)⟩
      simp [hf, e]
    · rename_i e
      cases hp : placeOf c r with
      | none => rw [hp] at h; cases h
      | some k =>
        rw [hp] at h
        obtain rfl : k + 1 = m := by simpa using h
        obtain ⟨h1, h2⟩ := first_flag hf hp
        refine ⟨by simpa using h1, fun q z hq hz => ?_⟩
        cases q with
        | zero =>
          have hx : f x = false := by rw [hf]; exact decide_eq_false fun z => e z.symm
          simp only [List.map_cons, List.getElem?_cons_zero, Option.some.injEq, hx] at hz
          subst hz; rfl
        | succ q => exact h2 q z (by omega) (by simpa using hz)
theorem flat_flags (l : List String) (f : String → Bool) : ((l.map fun c => V.bl (f c)).all flatV) = true := by
  rw [List.all_eq_true]
  intro x hx
  obtain ⟨c, _, rfl⟩ := List.mem_map.mp hx
  rfl
/-- the suite's reading -/
def tSui (i : Nat) (a : Addr) (m : Nat) : TS := fun D σ H => σ[i]? = some (some (.ref a)) ∧ ∀ H1, Same H H1 → D.rt (.int (m : Nat)) H1
theorem h_more (ho : Hot X sc n fl i j a D) {f : String → Bool} {c : String} {m : Nat} (hc : ∀ c', f c' = decide (c = c')) : ∀ {Ls : List (List String)} {ss : List Stmt} {pre : List String}, (∀ c ∈ Ls.flatten, Flg X D f c) → (pre ++ Ls.flatten).length ≤ 1000 → placeOf c (pre ++ Ls.flatten) = some m → moreB sc n fl Ls ss = true →
    PSs X ss (fun D σ H => σ[i]? = some (some (.ref a)) ∧ j < σ.length ∧ FlAt j (pre.map fun c => .bl (f c)) σ H ∧ ∀ H1, Same H H1 → D.rt (.int (m : Nat)) H1)
  | [cs], [s], pre, hf, hl, hm, h => by
    have h : (oTst (dIdx s) fun (e, m, ap, cp) => plusB sc n fl cs e && (m == ("index" : Str)) && (ap.endLine == cp.line)) = true := h
    obtain ⟨⟨e, mm, ap, cp⟩, e1, h⟩ := oTst_eq h
    obtain ⟨jj, p1, p2, rfl⟩ := dIdx_eq e1
    obtain ⟨h, h3⟩ := Bool.and_eq_true_iff.mp h
    obtain ⟨h1, h2⟩ := Bool.and_eq_true_iff.mp h
    have h2 : mm = ("index" : Str) := by simpa using h2
    subst h2
    simp only [List.flatten_cons, List.flatten_nil, List.append_nil] at hf hl hm
    obtain ⟨q1, q2, _⟩ := h_plus ho (bs := pre.map fun c => .bl (f c)) hf (by rw [List.length_map]; simpa using hl) h1
    obtain ⟨g1, g2⟩ := first_flag hc hm
    have hb : ∀ env : PySem.Env, attributeBase e ("index" : Str) env (eval e env) = eval e env := fun env => by
      obtain ⟨⟨x', y'⟩, e2, _⟩ := oTst_eq h1
      obtain ⟨_, _, rfl⟩ := dPlus_eq e2
      rfl
    refine PSs_imp (pss_one (ps_ret (pe_bm PySem.F.plainAttrs_list PySem.F.slot_list_index PySem.F.type_list_index mt_index q1 (pa_cons pe_bl pa_nil rfl) (hb _) (by rfl) h3 (by rfl) (by rfl)))) ?_
    rintro D σ H ⟨h4, h5, h6, h7⟩
    refine ⟨h4, h6, fun H1 sm p hp => ?_⟩
    have sm2 : Same H1 (upd H1 p (.lst ((pre.map fun c => V.bl (f c)) ++ cs.map fun c => .bl (f c)))) := fun b o e => by rw [upd_ne (ne_of_none e hp)]; exact e
    refine ⟨.inl ⟨rfl, _, SqL.of upd_same⟩, p, _, .bl true, m, .bl true, rfl, rfl, SqL.of upd_same, rfl, ?_, ?_, rfl, ?_, h7 _ (sm.trans sm2)⟩
    · rw [← List.map_append]; exact flat_flags _ f
    · rw [← List.map_append]; exact g1
    · rw [← List.map_append]; exact g2
  | cs :: Cs :: Ls, s :: s2 :: ss, pre, hf, hl, hm, h => by
    have h : (oTst (dAsn s) fun (x, e) => (x == fl) && plusB sc n fl cs e && moreB sc n fl (Cs :: Ls) (s2 :: ss)) = true := h
    obtain ⟨⟨x, e⟩, e1, h⟩ := oTst_eq h
    obtain ⟨p1, p2, rfl⟩ := dAsn_eq e1
    obtain ⟨h, h3⟩ := Bool.and_eq_true_iff.mp h
    obtain ⟨h1, h2⟩ := Bool.and_eq_true_iff.mp h
    have h1 : fl = x := by simpa using (by simpa using h1 : x = fl).symm
    subst h1
    have hfl : (cs :: Cs :: Ls).flatten = cs ++ (Cs :: Ls).flatten := rfl
    rw [hfl] at hf hl hm
    rw [← List.append_assoc] at hl hm
    obtain ⟨q1, q2, q3⟩ := h_plus ho (bs := pre.map fun c => .bl (f c)) (fun c h => hf c (List.mem_append_left _ h)) (by rw [List.length_map]; rw [List.length_append, List.length_append] at hl; omega) h2
    have ih := h_more ho hc (Ls := Cs :: Ls) (ss := s2 :: ss) (pre := pre ++ cs) (fun c h => hf c (List.mem_append_right _ h)) hl hm h3
    refine PSs_imp (pss_cons (ps_set (i := j) ho.nd ho.hj (by rw [ho.hsc]; exact .inl ho.lf) q1 (swp_of q3 _ _ _) (.inr (by rw [ho.hsc]; exact ho.lf))) ih) ?_
    rintro D σ H ⟨h4, h5, h6, h7⟩
    refine ⟨h4, h6, fun H1 sm p hp => ?_⟩
    have sm2 : Same H1 (upd H1 p (.lst ((pre.map fun c => V.bl (f c)) ++ cs.map fun c => .bl (f c)))) := fun b o e => by rw [upd_ne (ne_of_none e hp)]; exact e
    refine ⟨?_, by rw [List.length_set]; exact h5, ⟨p, ?_, ?_⟩, fun H2 sm3 => h7 H2 ((sm.trans sm2).trans sm3)⟩
    · rw [List.getElem?_set_ne (fun z => ho.ij z.symm)]; exact h4
    · rw [List.getElem?_set_self h5]
    · rw [List.map_append]; exact upd_same
  | [], ss, _, _, _, _, h => by cases ss <;> cases h
  | [_], [], _, _, _, _, h => by cases h
  | [_], _ :: _ :: _, _, _, _, _, h => by
    simp only [moreB] at h
    obtain ⟨⟨x, e⟩, e1, h⟩ := oTst_eq h
    obtain ⟨_, h3⟩ := Bool.and_eq_true_iff.mp h
    cases h3
  | _ :: _ :: _, [], _, _, _, _, h => by cases h
  | _ :: _ :: _, [_], _, _, _, _, h => by
    simp only [moreB] at h
    obtain ⟨⟨x, e⟩, e1, h⟩ := oTst_eq h
    obtain ⟨_, h3⟩ := Bool.and_eq_true_iff.mp h
    cases h3
theorem h_suite (ho : Hot X sc n fl i j a D) {f : String → Bool} {c : String} {m : Nat} (hc : ∀ c', f c' = decide (c = c')) {Ls : List (List String)} {ss : List Stmt} (hf : ∀ c ∈ Ls.flatten, Flg X D f c) (hl : Ls.flatten.length ≤ 1000) (hm : placeOf c Ls.flatten = some m) (h : suiteB sc n fl Ls ss = true) :
    PSs X ss (fun D σ H => σ[i]? = some (some (.ref a)) ∧ j < σ.length ∧ ∀ H1, Same H H1 → D.rt (.int (m : Nat)) H1) := by
  match Ls, ss, h with
  | cs :: Ls, s :: ss, h =>
    obtain ⟨h, h3⟩ := Bool.and_eq_true_iff.mp h
    obtain ⟨⟨x, e⟩, e1, h⟩ := oTst_eq h
    obtain ⟨p1, p2, rfl⟩ := dAsn_eq e1
    obtain ⟨h1, h2⟩ := Bool.and_eq_true_iff.mp h
    have h1 : fl = x := by simpa using (by simpa using h1 : x = fl).symm
    subst h1
    have hfl : (cs :: Ls).flatten = cs ++ Ls.flatten := rfl
    rw [hfl] at hf hl hm
    obtain ⟨q1, q2, q3⟩ := h_disp ho (fun c h => hf c (List.mem_append_left _ h)) h2
    refine PSs_imp (pss_cons (ps_set (i := j) ho.nd ho.hj (by rw [ho.hsc]; exact .inl ho.lf) q1 (swp_of q3 _ _ _) (.inr (by rw [ho.hsc]; exact ho.lf))) (h_more ho hc (pre := cs) (fun c h => hf c (List.mem_append_right _ h)) hl hm h3)) ?_
    rintro D σ H ⟨h4, h5, h6⟩
    refine ⟨h4, fun p hp => ?_⟩
    have sm2 : Same H (upd H p (.lst (cs.map fun c => V.bl (f c)))) := fun b o e => by rw [upd_ne (ne_of_none e hp)]; exact e
    refine ⟨?_, by rw [List.length_set]; exact h5, ⟨p, ?_, upd_same⟩, fun H2 sm3 => h6 H2 (sm2.trans sm3)⟩
    · rw [List.getElem?_set_ne (fun z => ho.ij z.symm)]; exact h4
    · rw [List.getElem?_set_self h5]
end
/-- the context of statements: exceptions that may be raised, the frame's stack -/
structure StX (X : Cx) (k : Ck) : Prop where
  ex : ∀ pn xe, ∀ c ∈ k.xs, ExOk (X.tr pn xe) c
  stk : X.stack = X.env :: X.outer
  frm : X.env.frame = some X.env.locals
  hx : k.hs.2 ≠ [] → HxOk X.K X.mg k.hs.1 k.hs.2
theorem StX.tr {X : Cx} {k : Ck} (s : StX X k) (pn xe) : StX (X.tr pn xe) k := ⟨fun pn xe => s.ex pn xe, s.stk, s.frm, s.hx⟩
section
variable {X : Cx} {O : Orc} {k : Ck} {sc : Scope} {lo fu : Nat} {W : WX} {B : Fr0} {P : Addr → HO → Prop} {Z : Addr → Prop} {A : List Addr}
theorem XOk.tr {so : Scope} (ok : XOk X O k sc so) (pn xe) : XOk (X.tr pn xe) O k sc so := ⟨ok.N, ok.sc, ok.calm, ok.nd, ok.hu, ok.fs, ok.cs, ok.bl, ok.st⟩
theorem Fs.w {X : Cx} {W W' : WX} {σ : L2.St} {H : Hp} {env : Env} {ρ : List Addr} {S : Sto} {Y : List Addr} (f : Fs (fm X O lo W) σ H env ρ S Y) : Fs (fm X O lo W') σ H env ρ S Y := ⟨f.cf, f.er⟩
theorem Sv.w {X : Cx} {W W' : WX} {σ : L2.St} {H : Hp} {env : Env} {ρ : List Addr} {S : Sto} (f : Sv (fm X O lo W) B P Z A σ H env ρ S) : Sv (fm X O lo W') B P Z A σ H env ρ S := ⟨f.fs.w, f.lo, f.same, f.own, f.pre, f.pin, f.dat, f.beg⟩
theorem q_tryF {b : Cs} {i j : Nat} {Ls : List (List String)} {body ss : List Stmt} {s0 : Stmt} {x n fl : Str} {np pos' pos : Pos} (ok : XOk X O k sc sc) (tk : Takes X W) (st : StX X k) (h1 : x = Str.ofString k.hs.1) (h2 : glB sc x = true) (hi : k.N[i]? = some n) (hj : k.N[j]? = some fl) (hij : i ≠ j) (ln : sc.names.lookup n = some .local) (lf : sc.names.lookup fl = some .local)
    (db : (n == ("__debug__" : Str)) = false) (dc : (n == ("__classdict__" : Str)) = false) (fb : (fl == ("__debug__" : Str)) = false) (fc : (fl == ("__classdict__" : Str)) = false) (hne : k.hs.2 ≠ []) (hsub : ∀ c ∈ Ls.flatten, c ∈ k.hs.2) (hl : Ls.flatten.length ≤ 1000) (hsu : suiteB sc n fl Ls (s0 :: ss) = true)
    (hb : ∀ (W' : WX) (pn : List (Addr × Obj)) (xe : Value → Shared → Prop), Takes (X.tr pn xe) W' → PassesOwn (model X.prog X.w) X.A X.env xe → PSs (X.tr pn xe) body (tSs (fm X O lo W') B P Z A fu b)) :
    PS X (.Try body [.ExceptHandler (some (.Name x np)) (some n) (s0 :: ss) pos'] [] [] pos) (tS (fm X O lo W) B P Z A fu (.tryF b i j Ls)) := by
  have hx := st.hx hne
  obtain ⟨CE, hm, hcat⟩ := hx.cat
  obtain ⟨g1, g2⟩ := ok.gl h2
  subst h1
  refine PS_imp (ps_try_as (X := X) (c := .ref CE) (i := i) (tb := fun W' => tSs (fm X O lo W') B P Z A fu b) (Wout := W)
    (ts := fun a cls d D σ H => ∃ c C m, cls = .ref C ∧ d = none ∧ c ∈ k.hs.2 ∧ X.mg (Str.ofString c) = some (.ref C) ∧ placeOf c Ls.flatten = some m ∧ σ[i]? = some (some (.ref a)) ∧ j < σ.length ∧ ∀ H1, Same H H1 → D.rt (.int (m : Nat)) H1)
    st.stk st.frm ok.nd (by rw [ok.N]; exact hi) (by show X.env.scope.names.lookup n = _; rw [ok.sc]; exact ln) ⟨g1, g2, .inl hm⟩ tk hb (fun a oe cls d pn hz hf => ?_)) ?_
  · refine ⟨fun pins s σ H D I h => ?_⟩
    obtain ⟨c, C, m, rfl, rfl, hc, hC, hp, q1, q2, q3⟩ := h
    have ec := hx.cls c hc C hC
    have ho : Hot (X.suite a ((a, oe) :: pn)) sc n fl i j a C := ⟨ok.nd, by show X.N[i]? = _; rw [ok.N]; exact hi, by show X.N[j]? = _; rw [ok.N]; exact hj, hij, ok.sc, ln, lf, db, dc, fb, fc, ok.bl "isinstance" (by decide), call_isE ec hz hf⟩
    refine (h_suite (X := X.suite a ((a, oe) :: pn)) ho (f := fun c' => decide (c = c')) (c := c) (m := m) (fun _ => rfl) (fun c' h' => ?_) hl hp hsu).run pins s σ H D I ⟨q1, q2, q3⟩
    obtain ⟨C', e1, e2⟩ := hx.isi c hc c' (hsub c' h')
    exact ⟨C', e1, e2 C hC⟩
  · rintro D σ H ⟨env, ρ, S, sv, h⟩
    simp only [exC] at h
    refine ⟨env, ρ, S, sv.w, ?_⟩
    show PoS _ B P Z A D (exCs O fu lo b env S)
    revert h
    generalize exCs O fu lo b env S = r
    intro h
    cases r with
    | no => exact h
    | nx env' S' => exact fun σ' H' ρ' sv' => h σ' H' ρ' sv'.w
    | bk env' S' => exact fun σ' H' ρ' sv' => h σ' H' ρ' sv'.w
    | ct env' S' => exact fun σ' H' ρ' sv' => h σ' H' ρ' sv'.w
    | rt w S' => exact fun v σ' H' ρ' env' sv' rw => h v σ' H' ρ' env' sv'.w rw
    | ex c env' S' =>
      have h : PoS (fm X O lo W) B P Z A D (if i < env'.length ∧ j < env'.length then optRs (placeOf c Ls.flatten) fun n => .rt (.d (.int n)) S' else .no) := h
      split at h
      case isFalse => exact h.elim
      case isTrue hij2 =>
      obtain ⟨m, e1, h2⟩ := PoS.opt h
      intro σ' H' ρ' C sv' hC
      have hcl : c ∈ Ls.flatten := by
        have key : ∀ (l : List String) (m : Nat), placeOf c l = some m → c ∈ l := by
          intro l
          induction l with
          | nil => intro m h; cases h
          | cons y r ih =>
            intro m h
            simp only [placeOf] at h
            split at h
            · rename_i e; rw [e]; exact List.mem_cons_self ..
            · cases hp : placeOf c r with
              | none => rw [hp] at h; cases h
              | some q => exact List.mem_cons_of_mem _ (ih q hp)
        exact key _ _ e1
      have hc := hsub c hcl
      refine ⟨true, hcat c hc C hC, fun _ a ha => ?_, fun z => by cases z⟩
      have hlen : ∀ j, j < env'.length → j < σ'.length := fun j h => by rw [sv'.fs.er.len]; exact h
      refine ⟨c, C, m, rfl, rfl, hc, hC, e1, ?_, by rw [List.length_set]; exact hlen j hij2.2, fun H1 sm => ?_⟩
      · rw [List.getElem?_set_self (hlen i hij2.1)]
      · have st : Ste lo H' S' H1 S' := Ste.of sm
        have sv2 : Sv (fm X O lo W) B P Z A σ' H1 env' ρ' S' := (Sv.step sv' st (sv'.fs.cf.grow sm)).w
        exact h2 (.int m) σ' H1 ρ' env' sv2 (.int _)
def dTry : Stmt → Option (List Stmt × Str × Str × Stmt × List Stmt)
  | .Try body [.ExceptHandler (some (.Name x _)) (some n) (s0 :: ss) _] [] [] _ => some (body, x, n, s0, ss)
  | _ => none
theorem dTry_eq {s : Stmt} {body x n s0 ss} (h : dTry s = some (body, x, n, s0, ss)) : ∃ p1 p2 p3, s = .Try body [.ExceptHandler (some (.Name x p1)) (some n) (s0 :: ss) p2] [] [] p3 := by
  unfold dTry at h
  split at h
  · cases h; exact ⟨_, _, _, rfl⟩
  · cases h
def locN (sc : Scope) (x : Str) : Bool := (match sc.names.lookup x with
  | some .local => true
  | _ => false) && !(x == ("__debug__" : Str)) && !(x == ("__classdict__" : Str))
theorem locN_of {x : Str} (h : locN sc x = true) : sc.names.lookup x = some .local ∧ (x == ("__debug__" : Str)) = false ∧ (x == ("__classdict__" : Str)) = false := by
  unfold locN at h
  obtain ⟨h, h3⟩ := Bool.and_eq_true_iff.mp h
  obtain ⟨h1, h2⟩ := Bool.and_eq_true_iff.mp h
  refine ⟨?_, by simpa using h2, by simpa using h3⟩
  split at h1
  · assumption
  · cases h1
def ckTry (k : Ck) (sc : Scope) (i j : Nat) (Ls : List (List String)) (g : List Stmt → Bool) (s : Stmt) : Bool :=
  oTst (dTry s) fun (body, x, n, s0, ss) => oTst (k.N[j]?) fun fl => (x == Str.ofString k.hs.1) && glB sc x && !k.hs.2.isEmpty && (Ls.flatten.all fun c => k.hs.2.contains c) && decide (Ls.flatten.length ≤ 1000) && decide (i ≠ j) && decide (k.N[i]? = some n) && locN sc n && locN sc fl && suiteB sc n fl Ls (s0 :: ss) && g body
theorem cq_tryF {b : Cs} {i j : Nat} {Ls : List (List String)} {s : Stmt} {g : List Stmt → Bool} (ok : XOk X O k sc sc) (tk : Takes X W) (st : StX X k)
    (hb : ∀ body, g body = true → ∀ (W' : WX) (pn : List (Addr × Obj)) (xe : Value → Shared → Prop), Takes (X.tr pn xe) W' → PassesOwn (model X.prog X.w) X.A X.env xe → PSs (X.tr pn xe) body (tSs (fm X O lo W') B P Z A fu b)) (h : ckTry k sc i j Ls g s = true) : PS X s (tS (fm X O lo W) B P Z A fu (.tryF b i j Ls)) := by
  obtain ⟨⟨body, x, n, s0, ss⟩, e1, h⟩ := oTst_eq h
  obtain ⟨p1, p2, p3, rfl⟩ := dTry_eq e1
  obtain ⟨fl, e2, h⟩ := oTst_eq (show oTst (k.N[j]?) _ = true from h)
  obtain ⟨h, h11⟩ := Bool.and_eq_true_iff.mp h
  obtain ⟨h, h10⟩ := Bool.and_eq_true_iff.mp h
  obtain ⟨h, h9⟩ := Bool.and_eq_true_iff.mp h
  obtain ⟨h, h8⟩ := Bool.and_eq_true_iff.mp h
  obtain ⟨h, h7⟩ := Bool.and_eq_true_iff.mp h
  obtain ⟨h, h6⟩ := Bool.and_eq_true_iff.mp h
  obtain ⟨h, h5⟩ := Bool.and_eq_true_iff.mp h
  obtain ⟨h, h4⟩ := Bool.and_eq_true_iff.mp h
  obtain ⟨h, h3⟩ := Bool.and_eq_true_iff.mp h
  obtain ⟨h1, h2⟩ := Bool.and_eq_true_iff.mp h
  obtain ⟨a1, a2, a3⟩ := locN_of h8
  obtain ⟨b1, b2, b3⟩ := locN_of h9
  refine q_tryF ok tk st (by simpa using h1) h2 (of_decide_eq_true h7) e2 (of_decide_eq_true h6) a1 b1 a2 a3 b2 b3 (fun z => ?_) (fun c hc => ?_) (of_decide_eq_true h5) h10 (fun W' pn xe => hb body h11 W' pn xe)
  · rw [z] at h3; cases h3
  · have := List.all_eq_true.mp h4 c hc
    simpa using this
end
/-! the classes' facts -/
section
variable {K : Frag} {mg : Str → Option Value}
structure ClsF (K : Frag) (mg : Str → Option Value) (c : String) (C : Addr) : Prop where
  at_ : mg (Str.ofString c) = some (.ref C)
  ec : ExcC K C
  ty : PySem.W.typeIn K (.ref C) = some (.type "type")
theorem kit_ne {c c' : String} {C C' : Addr} (hc : decide (c = c') = false) (hne : (Value.ref C == Value.ref C') = false) (hf : ClsF K mg c' C') (hs : PySem.W.subIn K (.ref C) (.ref C') = some false) : PySem.W.kitOne K (.ref C) (.ref C') = some (decide (c = c')) := by
  obtain ⟨cd, h1, _⟩ := PySem.W.any_some hf.ec.hd
  have e2 : ((PySem.W.clsIn K C').isSome && PySem.W.typeIn K (.ref C') == some (.type "type")) = true := by rw [h1, hf.ty]; rfl
  rw [hc]
  unfold PySem.W.kitOne
  rw [if_neg (by rw [hne]; exact Bool.false_ne_true)]
  show (if _ = true then PySem.W.subIn K (.ref C) (.ref C') else none) = _
  rw [if_pos e2]
  exact hs
theorem kit_eq {c : String} {C : Addr} : PySem.W.kitOne K (.ref C) (.ref C) = some (decide (c = c)) := by
  rw [decide_eq_true rfl]
  unfold PySem.W.kitOne
  rw [if_pos (by exact beq_self_eq_true _)]
theorem hx_of {cov : String} {CE : Addr} {L : List (String × Addr)} (hm : ClsF K mg cov CE) (hL : ∀ p ∈ L, ClsF K mg p.1 p.2) (hs : ∀ p ∈ L, PySem.W.subIn K (.ref p.2) (.ref CE) = some true)
    (hp : ∀ p ∈ L, ∀ q ∈ L, PySem.W.kitOne K (.ref p.2) (.ref q.2) = some (decide (p.1 = q.1))) : HxOk K mg cov (L.map (·.1)) := by
  have key : ∀ c ∈ L.map (·.1), ∃ C, (c, C) ∈ L := fun c hc => by
    obtain ⟨⟨x, C⟩, h1, rfl⟩ := List.mem_map.mp hc
    exact ⟨C, h1⟩
  have inj : ∀ c C C', (c, C) ∈ L → mg (Str.ofString c) = some (.ref C') → C' = C := fun c C C' h1 h2 => by
    have := (hL _ h1).at_.symm.trans h2
    cases this; rfl
  refine ⟨⟨CE, hm.at_, fun c hc C hC => ?_⟩, fun c hc C hC => ?_, fun c hc c' hc' => ?_⟩
  · obtain ⟨C0, h0⟩ := key c hc
    rw [inj c C0 C h0 hC]
    exact PySem.W.exm_ref hm.ec.hs hm.ec.hd hm.ty (hs _ h0)
  · obtain ⟨C0, h0⟩ := key c hc
    rw [inj c C0 C h0 hC]
    exact (hL _ h0).ec
  · obtain ⟨C0, h0⟩ := key c hc
    obtain ⟨C1, h1⟩ := key c' hc'
    exact ⟨C1, (hL _ h1).at_, fun C hC => by rw [inj c C0 C h0 hC]; exact hp _ h0 _ h1⟩
end
end Rf
namespace Rf
open PySem PySem.Spec PyProof.Rows L2

/-! ### locks -/
section
variable {lo : Nat} {S S1 S' : Sto}
theorem lockW_len (w : Wd) : (lockW lo S w).length = S.length := by
  cases w with
  | d x => rfl
  | r n => simp only [lockW]; split <;> (try split) <;> simp
theorem lockW_at (w : Wd) (n : Nat) : (lockW lo S w)[n]? = S[n]? ∨ ∃ o : So, o.isLst = true ∧ S[n]? = some o ∧ (lockW lo S w)[n]? = some o.lock := by
  cases w with
  | d x => exact .inl rfl
  | r m =>
    simp only [lockW]
    split
    · rename_i o e
      split
      · rename_i h
        by_cases hm : m = n
        · subst hm
          exact .inr ⟨o, h.1, e, by rw [List.getElem?_set_self (List.getElem?_eq_some_iff.mp e).1]⟩
        · exact .inl (by rw [List.getElem?_set_ne hm])
      · exact .inl rfl
    · exact .inl rfl
theorem lockAll_at : ∀ (ws : List Wd) (S : Sto) (n : Nat), (lockAll lo ws S)[n]? = S[n]? ∨ ∃ o : So, o.isLst = true ∧ S[n]? = some o ∧ (lockAll lo ws S)[n]? = some o.lock
  | [], _, _ => .inl rfl
  | w :: ws, S, n => by
    show (lockAll lo ws (lockW lo S w))[n]? = _ ∨ ∃ o : So, _ ∧ _ ∧ (lockAll lo ws (lockW lo S w))[n]? = _
    rcases lockAll_at ws (lockW lo S w) n with e | ⟨o, h, e1, e2⟩
    · rw [e]; exact lockW_at w n
    · rcases lockW_at (lo := lo) (S := S) w n with e | ⟨u, _, _, e⟩
      · exact .inr ⟨o, h, by rw [← e]; exact e1, e2⟩
      · rw [e] at e1; cases e1; rw [(So.lock_is u).1] at h; cases h
theorem lockAll_len : ∀ (ws : List Wd) (S : Sto), (lockAll lo ws S).length = S.length
  | [], _ => rfl
  | w :: ws, S => by
    show (lockAll lo ws (lockW lo S w)).length = _
    rw [lockAll_len ws, lockW_len]
theorem lockAll_low : ∀ (ws : List Wd) (S : Sto) (n : Nat), n < lo → (lockAll lo ws S)[n]? = S[n]?
  | [], _, _, _ => rfl
  | w :: ws, S, n, hn => by
    show (lockAll lo ws (lockW lo S w))[n]? = _
    rw [lockAll_low ws _ n hn]
    cases w with
    | d x => rfl
    | r m =>
      simp only [lockW]
      split
      · split
        · rw [List.getElem?_set_ne (by omega)]
        · rfl
      · rfl
theorem lockAll_hit : ∀ (ws : List Wd) (S : Sto) (n : Nat) (u : So), lo ≤ n → Wd.r n ∈ ws → (lockAll lo ws S)[n]? = some u → u.isLst = false
  | w :: ws, S, n, u, hn, hw, e => by
    have e : (lockAll lo ws (lockW lo S w))[n]? = some u := e
    rcases List.mem_cons.mp hw with h | h
    · subst h
      rcases lockAll_at (lo := lo) ws (lockW lo S (.r n)) n with q | ⟨o, _, _, q⟩
      · rw [q] at e
        simp only [lockW] at e
        split at e
        · rename_i o ez
          split at e
          · rw [List.getElem?_set_self (List.getElem?_eq_some_iff.mp ez).1] at e
            cases e
            exact (So.lock_is o).1
          · rename_i hno
            rw [ez] at e
            cases e
            cases h : u.isLst with
            | false => rfl
            | true => exact absurd ⟨h, hn⟩ hno
        · rename_i hno
          rw [hno] at e; cases e
      · rw [q] at e; cases e; exact (So.lock_is o).1
    · exact lockAll_hit ws _ n u hn h e
theorem freeW_at (w : Wd) (n : Nat) : (freeW lo S1 S w)[n]? = S[n]? ∨ ∃ o : So, lo ≤ n ∧ (∃ o0 : So, o0.isLst = true ∧ S1[n]? = some o0) ∧ S[n]? = some o ∧ o.isLck = true ∧ (freeW lo S1 S w)[n]? = some o.unlock := by
  cases w with
  | d x => exact .inl rfl
  | r m =>
    simp only [freeW]
    split
    · rename_i o0 o e1 e2
      split
      · rename_i hl
        by_cases hm : m = n
        · subst hm
          exact .inr ⟨o, hl.2.2, ⟨o0, hl.1, e1⟩, e2, hl.2.1, by rw [List.getElem?_set_self (List.getElem?_eq_some_iff.mp e2).1]⟩
        · exact .inl (by rw [List.getElem?_set_ne hm])
      · exact .inl rfl
    · exact .inl rfl
theorem freeW_len (w : Wd) : (freeW lo S1 S w).length = S.length := by
  cases w with
  | d x => rfl
  | r n => simp only [freeW]; split <;> (try split) <;> simp
theorem freeAll_at : ∀ (ws : List Wd) (S : Sto) (n : Nat), (freeAll lo S1 ws S)[n]? = S[n]? ∨ ∃ o : So, lo ≤ n ∧ (∃ o0 : So, o0.isLst = true ∧ S1[n]? = some o0) ∧ S[n]? = some o ∧ o.isLck = true ∧ (freeAll lo S1 ws S)[n]? = some o.unlock
  | [], _, _ => .inl rfl
  | w :: ws, S, n => by
    show (freeAll lo S1 ws (freeW lo S1 S w))[n]? = _ ∨ ∃ o : So, _ ∧ _ ∧ _ ∧ _ ∧ (freeAll lo S1 ws (freeW lo S1 S w))[n]? = _
    rcases freeAll_at ws (freeW lo S1 S w) n with e | ⟨o, e0, e1, e2, h, e3⟩
    · rw [e]; exact freeW_at w n
    · rcases freeW_at (lo := lo) (S1 := S1) (S := S) w n with e | ⟨u, _, _, _, _, e⟩
      · exact .inr ⟨o, e0, e1, by rw [← e]; exact e2, h, e3⟩
      · rw [e] at e2; cases e2; rw [(So.unlock_is u).2.2.2] at h; cases h
theorem freeAll_len : ∀ (ws : List Wd) (S : Sto), (freeAll lo S1 ws S).length = S.length
  | [], _ => rfl
  | w :: ws, S => by
    show (freeAll lo S1 ws (freeW lo S1 S w)).length = _
    rw [freeAll_len ws, freeW_len]
end
/-- two stores of the same lists, whatever is locked -/
structure Alike (lo : Nat) (S S' : Sto) : Prop where
  len : S'.length = S.length
  it : ∀ n : Nat, (S[n]? = none ∧ S'[n]? = none) ∨ ∃ o o', S[n]? = some o ∧ S'[n]? = some o' ∧ o'.list? = o.list? ∧ o'.dict? = o.dict? ∧ o.mut = o'.mut
  low : ∀ n : Nat, n < lo → S'[n]? = S[n]?
theorem alike_mu {lo : Nat} {S S' : Sto} (h : Alike lo S S') {ρ Y : List Addr} : mu ρ S' Y = mu ρ S Y := by
  funext a
  refine propext ⟨?_, ?_⟩
  · rintro (z | ⟨n, o, h1, h2, h3⟩)
    · exact .inl z
    · rcases h.it n with ⟨_, e⟩ | ⟨u, u', e1, e2, _, _, e4⟩
      · rw [e] at h2; cases h2
      · rw [e2] at h2; cases h2
        exact .inr ⟨n, u, h1, e1, by rw [e4]; exact h3⟩
  · rintro (z | ⟨n, o, h1, h2, h3⟩)
    · exact .inl z
    · rcases h.it n with ⟨e, _⟩ | ⟨u, u', e1, e2, _, _, e4⟩
      · rw [e] at h2; cases h2
      · rw [e1] at h2; cases h2
        exact .inr ⟨n, u', h1, e2, by rw [← e4]; exact h3⟩
theorem alike_lock (lo : Nat) (ws : List Wd) (S : Sto) : Alike lo S (lockAll lo ws S) := by
  refine ⟨lockAll_len ws S, fun n => ?_, fun n hn => lockAll_low ws S n hn⟩
  rcases lockAll_at (lo := lo) ws S n with e | ⟨o, _, e1, e2⟩
  · cases q : S[n]? with
    | none => exact .inl ⟨rfl, by rw [e]; exact q⟩
    | some o => exact .inr ⟨o, o, rfl, by rw [e]; exact q, rfl, rfl, rfl⟩
  · exact .inr ⟨_, _, e1, e2, (So.lock_is o).2.1, (So.lock_is o).2.2.1, (So.lock_is o).2.2.2.symm⟩
theorem alike_free (lo : Nat) (S1 : Sto) (ws : List Wd) (S : Sto) : Alike lo S (freeAll lo S1 ws S) := by
  refine ⟨freeAll_len ws S, fun n => ?_, fun n hn => ?_⟩
  · rcases freeAll_at (lo := lo) (S1 := S1) ws S n with e | ⟨o, _, _, e1, _, e2⟩
    · cases q : S[n]? with
      | none => exact .inl ⟨rfl, by rw [e]; exact q⟩
      | some o => exact .inr ⟨o, o, rfl, by rw [e]; exact q, rfl, rfl, rfl⟩
    · exact .inr ⟨_, _, e1, e2, (So.unlock_is o).1, (So.unlock_is o).2.1, (So.unlock_is o).2.2.1.symm⟩
  · rcases freeAll_at (lo := lo) (S1 := S1) ws S n with e | ⟨xs, e0, _⟩
    · exact e
    · omega
section
variable {F : Fm} {B : Fr0} {P P' : Addr → HO → Prop} {Z Z' : Addr → Prop} {A A' : List Addr} {σ σ1 : L2.St} {H H1 : Hp} {env : Env} {ρ : List Addr} {S S' S1 : Sto}
theorem Fs.alike {Y : List Addr} (f : Fs F σ H env ρ S Y) (h : Alike F.lo S S') : Fs F σ H env ρ S' Y := by
  have em := alike_mu h (ρ := ρ) (Y := Y)
  refine ⟨⟨f.cf.len.trans h.len.symm, f.cf.nd, f.cf.alive, f.cf.sep, fun n a o h1 h2 => ?_⟩, f.er.len, ?_⟩
  · rcases h.it n with ⟨_, e⟩ | ⟨u, u', e1, e2, e3, e4, _⟩
    · rw [e] at h2; cases h2
    · rw [e2] at h2; cases h2
      rw [em]
      exact (f.cf.ent n a u h1 e1).same e3 e4
  · rw [em]; exact f.er.at_
/-- what a loop pins -/
def pinL (P : Addr → HO → Prop) (H1 : Hp) (M1 : Pr) (Bs : List Addr) : Addr → HO → Prop := fun b o => P b o ∨ (H1 b = some o ∧ (b ∈ Bs ∨ (∃ xs, o = .tup xs) ∨ (∃ u v, o = .frz u v) ∨ ¬ M1 b))
def datL (Z : Addr → Prop) (H1 : Hp) (M1 : Pr) : Addr → Prop := fun b => Z b ∨ (H1 b ≠ none ∧ ¬ M1 b)
theorem Sv.lock (s : Sv F B P Z A σ H env ρ S) {ws : List Wd} {Bs : List Addr} (hB : ∀ b ∈ Bs, H b ≠ none → (∃ n, Wd.r n ∈ ws ∧ ρ[n]? = some b) ∨ ¬ mu ρ S B.Y b) :
    Sv F B (pinL P H (mu ρ S B.Y) Bs) (datL Z H (mu ρ S B.Y)) ρ σ H env ρ (lockAll F.lo ws S) := by
  have al := alike_lock F.lo ws S
  have em := alike_mu al (ρ := ρ) (Y := B.Y)
  refine ⟨s.fs.alike al, s.lo, s.same, s.own, fun n hn => (al.low n hn).trans (s.pre n hn), fun b o h => ?_, fun b h => ?_, fun n a e => e⟩
  · have notl : ∀ (n : Nat) u, F.lo ≤ n → ρ[n]? = some b → (∀ v, S[n]? = some v → v.isLst = false) → (lockAll F.lo ws S)[n]? = some u → u.isLst = false := by
      intro n u _ _ hv hu
      rcases lockAll_at (lo := F.lo) ws S n with e | ⟨o, _, e1, e2⟩
      · exact hv u (by rw [← e]; exact hu)
      · rw [e2] at hu; cases hu; exact (So.lock_is o).1
    have nomut : ¬ mu ρ S B.Y b → ∀ (n : Nat) u, F.lo ≤ n → ρ[n]? = some b → (lockAll F.lo ws S)[n]? = some u → u.isLst = false := by
      intro nm n u hn e1 e2
      refine notl n u hn e1 (fun v hv => ?_) e2
      cases q : v.isLst with
      | false => rfl
      | true => exact absurd (.inr ⟨n, _, e1, hv, So.lst_mut q⟩) nm
    rcases h with h | ⟨h1, h⟩
    · obtain ⟨k1, k2⟩ := s.pin b o h
      exact ⟨k1, fun n u hn e1 e2 => notl n u hn e1 (fun v hv => k2 n v hn e1 hv) e2⟩
    · refine ⟨h1, fun n u hn e1 e2 => ?_⟩
      have hl : n < S.length := by rw [← s.fs.cf.len]; exact (List.getElem?_eq_some_iff.mp e1).1
      have sok := s.fs.cf.ent n b _ e1 (List.getElem?_eq_getElem hl)
      rcases h with h | ⟨ys, h⟩ | ⟨y, z, h⟩ | h
      · rcases hB b h sok.alive with ⟨m, m1, m2⟩ | nm
        · have : m = n := nodA s.fs.cf.nd m2 e1
          subst this
          exact lockAll_hit ws S m u hn m1 e2
        · exact nomut nm n u hn e1 e2
      · subst h; rcases sok.kind with ⟨_, q⟩ | ⟨_, q⟩ <;> (rw [q] at h1; cases h1)
      · subst h; rcases sok.kind with ⟨_, q⟩ | ⟨_, q⟩ <;> (rw [q] at h1; cases h1)
      · exact nomut h n u hn e1 e2
  · rw [em]
    rcases h with h | h
    · exact s.dat b h
    · exact h
theorem Sv.unlock {S1 : Sto} {ρ1 : List Addr} {ws : List Wd} (s : Sv F B P' Z' ρ1 σ H env ρ S) (hP : ∀ b o, P b o → P' b o ∧ ∀ (n : Nat) u, F.lo ≤ n → ρ1[n]? = some b → S1[n]? = some u → u.isLst = false) (hZ : ∀ b, Z b → Z' b) (hA : ∀ (n : Nat) a, A[n]? = some a → ρ1[n]? = some a)
    (hl : ρ1.length = S1.length) : Sv F B P Z A σ H env ρ (freeAll F.lo S1 ws S) := by
  have al := alike_free F.lo S1 ws S
  have em := alike_mu al (ρ := ρ) (Y := B.Y)
  refine ⟨s.fs.alike al, s.lo, s.same, s.own, fun n hn => (al.low n hn).trans (s.pre n hn), fun b o h => ?_, fun b h => ?_, fun n a e => s.beg n a (hA n a e)⟩
  · obtain ⟨k0, k1⟩ := hP b o h
    obtain ⟨k2, k3⟩ := s.pin b o k0
    refine ⟨k2, fun n u hn e1 e2 => ?_⟩
    rcases freeAll_at (lo := F.lo) (S1 := S1) ws S n with e | ⟨o, _, ⟨o0, q0, q1⟩, q2, _, q3⟩
    · exact k3 n u hn e1 (by rw [← e]; exact e2)
    · have hn1 : n < ρ1.length := by rw [hl]; exact (List.getElem?_eq_some_iff.mp q1).1
      have e4 := s.beg n _ (List.getElem?_eq_getElem hn1)
      rw [e1] at e4
      cases e4
      exact absurd (k1 n _ hn (List.getElem?_eq_getElem hn1) q1) (by rw [q0]; simp)
  · rw [em]; exact s.dat b (hZ b h)
/-- data stays data through a loop -/
theorem Sv.old {M1 : Pr} {Bs : List Addr} (s : Sv F B (pinL P H1 M1 Bs) (datL Z H1 M1) A σ H env ρ S) : ∀ v d, Rp F.K H1 M1 v d → Rp F.K H (mu ρ S B.Y) v d := fun v d r => by
  refine Rp.mono (fun a xs l => ?_) (fun a xs l => ?_) d v r
  · rcases l with ⟨l1, l2⟩ | l
    · rcases l1 with l1 | ⟨o, l1⟩
      · exact .inl ⟨.inl (s.pin a _ (.inr ⟨l1, .inr (.inr (.inr l2))⟩)).1, (s.dat a (.inr ⟨by rw [l1]; simp, l2⟩)).2⟩
      · exact .inl ⟨.inr ⟨o, (s.pin a _ (.inr ⟨l1, .inr (.inr (.inr l2))⟩)).1⟩, (s.dat a (.inr ⟨by rw [l1]; simp, l2⟩)).2⟩
    · exact .inr l
  · rcases l with (l | ⟨o, l⟩) | l
    · exact .inl (.inl (s.pin a _ (.inr ⟨l, .inr (.inl ⟨_, rfl⟩)⟩)).1)
    · exact .inl (.inr ⟨o, (s.pin a _ (.inr ⟨l, .inr (.inr (.inl ⟨_, _, rfl⟩))⟩)).1⟩)
    · exact .inr l
theorem Sv.kp {M1 : Pr} {Bs : List Addr} (s : Sv F B (pinL P H1 M1 Bs) (datL Z H1 M1) A σ H env ρ S) : Kp Bs H1 H := fun b o e h =>
  (s.pin b o (.inr ⟨e, h.elim .inl fun h => h.elim (fun h => .inr (.inl h)) fun h => .inr (.inr (.inl h))⟩)).1
end
section
variable {X : Cx} {O : Orc} {k : Ck} {sc : Scope} {lo fu : Nat} {W : WX} {B : Fr0} {P : Addr → HO → Prop} {Z : Addr → Prop} {A : List Addr} {a b c tg iter : Expr} {ea eb ec : E} {pos : Pos}
theorem q_loop {t : T} {it : I} {ss : List Stmt} {cb : Cs} (ok : XOk X O k sc sc) (po : PassesOwn (model X.prog X.w) X.A X.env X.xe) (hp : plainX iter = true) (hi : PI X tg iter (tI (fm X O lo W) it)) (hg : PG X tg (tT (fm X O lo W) t))
    (hb : ∀ P Z A, PSs X ss (tSs (fm X O lo W) B P Z A fu cb)) : PS X (.For tg iter ss [] pos) (tS (fm X O lo W) B P Z A fu (.loop t it cb)) := by
  refine ⟨fun pins s σ H D I hyp => ?_⟩
  obtain ⟨env, ρ, S, sv, h⟩ := hyp
  simp only [exC] at h
  -- the walk's beginning is needed to say what the body pins: the reading is chosen by it
  refine (ps_for (tb := fun D σ H => ∃ P Z A, tSs (fm X O lo W) B P Z A fu cb D σ H) po ok.calm hi hg ⟨fun pins s σ H D I ⟨P, Z, A, q⟩ => (hb P Z A).run pins s σ H D I q⟩ (fold_of hp _)).run pins s σ H D I ?_
  refine ⟨env, ρ, S, B.Y, sv.fs, PoS.rs sv h fun p S1 J H1 _ _ cf1 ri sv1 h1 => ?_⟩
  obtain ⟨Bs, ⟨G, Yl, wlk, g1, gs, yl⟩, hlen, hBs⟩ := ri
  have svl := sv1.lock (ws := p.2) (Bs := Bs) (fun b hb _ => hBs b hb)
  have fin : ∀ {σ' H' env' ρ' S'}, Sv (fm X O lo W) B (pinL P H1 (mu ρ S1 B.Y) Bs) (datL Z H1 (mu ρ S1 B.Y)) ρ σ' H' env' ρ' S' → Sv (fm X O lo W) B P Z A σ' H' env' ρ' (freeAll lo S1 p.2 S') := fun {σ' H' env' ρ' S'} q =>
    Sv.unlock (ρ1 := ρ) q (fun b o hP => ⟨.inl hP, fun n u hn e1 e2 => (sv1.pin b o hP).2 n u hn e1 e2⟩) (fun b hZ => .inl hZ) (fun n a e => sv1.beg n a e) cf1.len
  have wk : ∀ {σ' H' env' ρ' S'}, Sv (fm X O lo W) B (pinL P H1 (mu ρ S1 B.Y) Bs) (datL Z H1 (mu ρ S1 B.Y)) ρ σ' H' env' ρ' S' → Sv (fm X O lo W) B P Z A σ' H' env' ρ' S' := fun {σ' H' env' ρ' S'} q =>
    q.weak (fun b o z => .inl z) (fun b z => .inl z) (fun n a e => sv1.beg n a e)
  refine for_it wlk (g := tT (fm X O lo W) t) (tb := fun D σ H => ∃ P Z A, tSs (fm X O lo W) B P Z A fu cb D σ H) (D := D) (σ := σ) (H := H1) (fun i σ2 H2 => ∃ env2 ρ2 S2, Sv (fm X O lo W) B (pinL P H1 (mu ρ S1 B.Y) Bs) (datL Z H1 (mu ρ S1 B.Y)) ρ σ2 H2 env2 ρ2 S2 ∧
    PoS (fm X O lo W) B P Z A D ((forGo (fun x env S => optRs (t.put x env) fun env => exCs O fu lo cb env S) (p.1.drop i) env2 S2).free lo S1 p.2)) ?_ ?_ ?_ ?_
  · exact ⟨env, ρ, _, svl, by simpa using h1⟩
  · rintro i σ2 H2 hi ⟨env2, ρ2, S2, sv2, _⟩
    exact gs H1 H2 g1 sv2.kp
  · rintro i xv σ2 H2 H2' hi ⟨env2, ρ2, S2, sv2, h2⟩ hy
    obtain ⟨sm2, d, ed, rd⟩ := yl i H2 xv H2' (mu ρ2 S2 B.Y) hi (gs H1 H2 g1 sv2.kp) (fun a => sv2.fs.cf.mu_alive) sv2.old hy
    have edr : p.1.drop i = d :: p.1.drop (i + 1) := by
      obtain ⟨h1, h2⟩ := List.getElem?_eq_some_iff.mp ed
      rw [List.drop_eq_getElem_cons h1, h2]
    rw [edr] at h2
    simp only [forGo] at h2
    cases hpt : t.put d env2 with
    | none => rw [hpt] at h2; exact h2.elim
    | some env3 =>
      rw [hpt] at h2
      simp only [optRs_some] at h2
      have sv3 := sv2.step (Ste.of (lo := lo) sm2) (sv2.fs.cf.grow sm2)
      refine ⟨env2, ρ2, S2, B.Y, d, env3, sv3.fs, rd, hpt, fun σ3 _ fs3 => ⟨_, _, _, env3, ρ2, S2, sv3.toEnv fs3, ?_⟩⟩
      show PoS (fm X O lo W) B _ _ ρ _ (exCs O fu lo cb env3 S2)
      cases e : exCs O fu lo cb env3 S2 with
      | no => rw [e] at h2; exact h2
      | ex c env' S' => rw [e] at h2; exact fun σ' H' ρ' C q m => h2 σ' H' ρ' C (wk q) m
      | nx env' S' => rw [e] at h2; exact fun σ' H' ρ' q => ⟨env', ρ', S', q, h2⟩
      | ct env' S' => rw [e] at h2; exact fun σ' H' ρ' q => ⟨env', ρ', S', q, h2⟩
      | bk env' S' => rw [e] at h2; exact fun σ' H' ρ' q => h2 σ' H' ρ' (fin q)
      | rt w S' => rw [e] at h2; exact fun v σ' H' ρ' env' q r => h2 v σ' H' ρ' env' (wk q) r
  · rintro σ2 H2 ⟨env2, ρ2, S2, sv2, h2⟩
    rw [List.drop_length] at h2
    exact h2 σ2 H2 ρ2 (fin sv2)
end
end Rf
namespace Rf
open PySem PySem.Spec PyProof.Rows L2

/-! ### the checker of statements -/
def lcl (sc : Scope) (x : Str) : Bool := match sc.names.lookup x with
  | some .local => true
  | _ => false
def notLocal (sc : Scope) (x : Str) : Bool := match sc.names.lookup x with
  | some .cell => true
  | _ => false
def notTup : Expr → Bool
  | .Tuple .. => false
  | e => notComp e
def dAsg : Stmt → Option (Expr × Expr × Pos)
  | .Assign [t] v p => some (t, v, p)
  | _ => none
def dNam : Expr → Option (Str × Pos)
  | .Name x p => some (x, p)
  | _ => none
def dSub : Expr → Option (Expr × Expr × Pos)
  | .Subscript z i p => some (z, i, p)
  | _ => none
def dDic : Expr → Option Pos
  | .Dict [] [] p => some p
  | _ => none
theorem dSub_eq {e : Expr} {z i p} (h : dSub e = some (z, i, p)) : e = .Subscript z i p := by unfold dSub at h; split at h <;> simp at h; obtain ⟨rfl, rfl, rfl⟩ := h; rfl
theorem dDic_eq {e : Expr} {p} (h : dDic e = some p) : e = .Dict [] [] p := by unfold dDic at h; split at h <;> simp at h; subst h; rfl
def dTup : Expr → Option (List Expr × Nat × Pos)
  | .Tuple ts k p => some (ts, k, p)
  | _ => none
def dLis : Expr → Option (List Expr × Pos)
  | .List ts p => some (ts, p)
  | _ => none
def dTwo {α : Type} : List α → Option (α × α)
  | [x, y] => some (x, y)
  | _ => none
def dAug : Stmt → Option (Expr × Operator × Expr × Pos)
  | .AugAssign t o v p => some (t, o, v, p)
  | _ => none
def dXpr : Stmt → Option (Expr × Pos)
  | .Expr v p => some (v, p)
  | _ => none
def dCal : Expr → Option (Expr × Expr × Pos)
  | .Call f [v] [] p => some (f, v, p)
  | _ => none
def dAtt : Expr → Option (Expr × Str × Pos)
  | .Attribute v m p => some (v, m, p)
  | _ => none
def dIfe : Stmt → Option (Expr × List Stmt × List Stmt × Pos)
  | .If t a b p => some (t, a, b, p)
  | _ => none
def dFor : Stmt → Option (Expr × Expr × List Stmt × Pos)
  | .For t i b [] p => some (t, i, b, p)
  | _ => none
def dWhl : Stmt → Option (Expr × List Stmt × Pos)
  | .While t b [] p => some (t, b, p)
  | _ => none
def dRet : Stmt → Option (Expr × Pos)
  | .Return (some v) p => some (v, p)
  | _ => none
def dRai : Stmt → Option (Expr × Pos)
  | .Raise (some e) none p => some (e, p)
  | _ => none
def dStr : Expr → Option (Str × Nat × Pos)
  | .Constant (.str m) j p => some (m, j, p)
  | _ => none
def dLcp : Expr → Option (Scope × Pos)
  | .ListComp _ _ s p => some (s, p)
  | _ => none
theorem dAsg_eq {s : Stmt} {t v p} (h : dAsg s = some (t, v, p)) : s = .Assign [t] v p := by unfold dAsg at h; split at h <;> simp at h; obtain ⟨rfl, rfl, rfl⟩ := h; rfl
theorem dNam_eq {s : Expr} {t p} (h : dNam s = some (t, p)) : s = .Name t p := by unfold dNam at h; split at h <;> simp at h; obtain ⟨rfl, rfl⟩ := h; rfl
theorem dTup_eq {s : Expr} {t k p} (h : dTup s = some (t, k, p)) : s = .Tuple t k p := by unfold dTup at h; split at h <;> simp at h; obtain ⟨rfl, rfl, rfl⟩ := h; rfl
theorem dLis_eq {s : Expr} {t p} (h : dLis s = some (t, p)) : s = .List t p := by unfold dLis at h; split at h <;> simp at h; obtain ⟨rfl, rfl⟩ := h; rfl
theorem dTwo_eq {α : Type} {s : List α} {x y} (h : dTwo s = some (x, y)) : s = [x, y] := by unfold dTwo at h; split at h <;> simp at h; obtain ⟨rfl, rfl⟩ := h; rfl
theorem dAug_eq {s : Stmt} {t o v p} (h : dAug s = some (t, o, v, p)) : s = .AugAssign t o v p := by unfold dAug at h; split at h <;> simp at h; obtain ⟨rfl, rfl, rfl, rfl⟩ := h; rfl
theorem dXpr_eq {s : Stmt} {v p} (h : dXpr s = some (v, p)) : s = .Expr v p := by unfold dXpr at h; split at h <;> simp at h; obtain ⟨rfl, rfl⟩ := h; rfl
theorem dCal_eq {s : Expr} {f v p} (h : dCal s = some (f, v, p)) : s = .Call f [v] [] p := by unfold dCal at h; split at h <;> simp at h; obtain ⟨rfl, rfl, rfl⟩ := h; rfl
theorem dAtt_eq {s : Expr} {f v p} (h : dAtt s = some (f, v, p)) : s = .Attribute f v p := by unfold dAtt at h; split at h <;> simp at h; obtain ⟨rfl, rfl, rfl⟩ := h; rfl
theorem dIfe_eq {s : Stmt} {t a b p} (h : dIfe s = some (t, a, b, p)) : s = .If t a b p := by unfold dIfe at h; split at h <;> simp at h; obtain ⟨rfl, rfl, rfl, rfl⟩ := h; rfl
theorem dFor_eq {s : Stmt} {t a b p} (h : dFor s = some (t, a, b, p)) : s = .For t a b [] p := by unfold dFor at h; split at h <;> simp at h; obtain ⟨rfl, rfl, rfl, rfl⟩ := h; rfl
theorem dWhl_eq {s : Stmt} {t b p} (h : dWhl s = some (t, b, p)) : s = .While t b [] p := by unfold dWhl at h; split at h <;> simp at h; obtain ⟨rfl, rfl, rfl⟩ := h; rfl
theorem dRet_eq {s : Stmt} {v p} (h : dRet s = some (v, p)) : s = .Return (some v) p := by unfold dRet at h; split at h <;> simp at h; obtain ⟨rfl, rfl⟩ := h; rfl
theorem dRai_eq {s : Stmt} {v p} (h : dRai s = some (v, p)) : s = .Raise (some v) none p := by unfold dRai at h; split at h <;> simp at h; obtain ⟨rfl, rfl⟩ := h; rfl
theorem dStr_eq {s : Expr} {f v p} (h : dStr s = some (f, v, p)) : s = .Constant (.str f) v p := by unfold dStr at h; split at h <;> simp at h; obtain ⟨rfl, rfl, rfl⟩ := h; rfl
theorem dLcp_eq {s : Expr} {c p} (h : dLcp s = some (c, p)) : ∃ a b, s = .ListComp a b c p := by unfold dLcp at h; split at h <;> simp at h; obtain ⟨rfl, rfl⟩ := h; exact ⟨_, _, rfl⟩
theorem dLcp_no {s : Expr} (h : dLcp s = none) : ∀ a b c d, s ≠ .ListComp a b c d := by rintro a b c d rfl; cases h
def ckSet (k : Ck) (sc : Scope) (i : Nat) (g : Expr → Bool) (s : Stmt) : Bool :=
  oTst (dAsg s) fun (t, v, _) => oTst (dNam t) fun (x, px) => decide (k.N[i]? = some x) && locB sc x && g v && (match dLcp v with
    | some (scope, p2) => notLocal sc x || (lcl sc x && (px.line == p2.line) && !(scope.names.any fun (n, q) => n == x && (q == .local || q == .cell)))
    | none => plainX v)
def ckOwn (k : Ck) (sc : Scope) (i : Nat) (g : List Expr → Bool) (s : Stmt) : Bool :=
  oTst (dAsg s) fun (t, v, _) => oTst (dNam t) fun (x, _) => oTst (dLis v) fun (es, _) => decide (k.N[i]? = some x) && locB sc x && g es
/-- two stores that are not swapped: a name is captured, or all is one constant -/
def noSw (sc : Scope) (ts : List Expr) (v : Expr) : Bool :=
  oTst (dTwo ts) fun (t1, t2) => oTst (dNam t1) fun (x, _) => oTst (dNam t2) fun (y, _) => oTst (dTup v) fun (vs, _, _) => oTst (dTwo vs) fun (u, w) =>
    plainX u && plainX w && (notLocal sc x || notLocal sc y || [u, w].all (foldedForSure 8))
def ckUnp (k : Ck) (sc : Scope) (is : List Nat) (g : Expr → Bool) (s : Stmt) : Bool :=
  oTst (dAsg s) fun (t, v, _) => oTst (dTup t) fun (ts, _, _) => tgtV k sc is ts && (notTup v || noSw sc ts v) && g v
def ckPar (k : Ck) (sc : Scope) (i j : Nat) (g1 g2 : Expr → Bool) (s : Stmt) : Bool :=
  oTst (dAsg s) fun (t, v, _) => oTst (dTup t) fun (ts, _, _) => oTst (dTwo ts) fun (t1, t2) => oTst (dNam t1) fun (x, px) => oTst (dNam t2) fun (y, py) => oTst (dTup v) fun (vs, _, _) => oTst (dTwo vs) fun (u, v) =>
    decide (k.N[i]? = some x) && decide (k.N[j]? = some y) && decide (i ≠ j) && lcl sc x && lcl sc y && (py.line == px.line) && !(x == y) &&
      !([u, v].all (foldedForSure 8)) && !([u, v].all (constantsAlone 8)) && plainX u && plainX v && g1 u && g2 v
def dThr {α : Type} : List α → Option (α × α × α)
  | [x, y, z] => some (x, y, z)
  | _ => none
theorem dThr_eq {α : Type} {s : List α} {x y z} (h : dThr s = some (x, y, z)) : s = [x, y, z] := by unfold dThr at h; split at h <;> simp at h; obtain ⟨rfl, rfl, rfl⟩ := h; rfl
def ckPa2 (k : Ck) (sc : Scope) (i j : Nat) (ps : List Pe) (s : Stmt) : Bool :=
  oTst (dAsg s) fun (t, v, _) => oTst (dTup t) fun (ts, _, _) => oTst (dTwo ts) fun (t1, t2) => oTst (dNam t1) fun (x, px) => oTst (dNam t2) fun (y, py) => oTst (dTup v) fun (vs, _, _) => oTst (dTwo vs) fun (u, v) =>
    decide (k.N[i]? = some x) && decide (k.N[j]? = some y) && decide (i ≠ j) && lcl sc x && lcl sc y && (py.line == px.line) && !(x == y) &&
      !([u, v].all (foldedForSure 8)) && !([u, v].all (constantsAlone 8)) && decide (ps.length = 2) && chkP k sc ps [u, v]
def ckPa3 (k : Ck) (sc : Scope) (i j l : Nat) (ps : List Pe) (s : Stmt) : Bool :=
  oTst (dAsg s) fun (t, v, _) => oTst (dTup t) fun (ts, _, _) => oTst (dThr ts) fun (t1, t2, t3) => oTst (dNam t1) fun (x, px) => oTst (dNam t2) fun (y, py) => oTst (dNam t3) fun (z, pz) => oTst (dTup v) fun (vs, _, _) => oTst (dThr vs) fun (u, v, w) =>
    decide (k.N[i]? = some x) && decide (k.N[j]? = some y) && decide (k.N[l]? = some z) && decide (i ≠ j ∧ i ≠ l ∧ j ≠ l) && lcl sc x && lcl sc y && lcl sc z && (py.line == px.line) && (pz.line == px.line) && !(x == y) && !(x == z) && !(y == z) &&
      !([u, v, w].all (foldedForSure 8)) && !([u, v, w].all (constantsAlone 8)) && decide (ps.length = 3) && chkP k sc ps [u, v, w]
def ckParG (k : Ck) (sc : Scope) (is : List Nat) (ps : List Pe) (s : Stmt) : Bool := match is with
  | [i, j] => ckPa2 k sc i j ps s
  | [i, j, l] => ckPa3 k sc i j l ps s
  | _ => false
def ckAug (k : Ck) (sc : Scope) (i : Nat) (op : Bop) (g : Expr → Bool) (s : Stmt) : Bool :=
  oTst (dAug s) fun (t, oq, v, _) => oTst (dNam t) fun (x, _) => decide (k.N[i]? = some x) && locB sc x && augOf op oq && g v
def ckMet (k : Ck) (sc : Scope) (nm : String) (i : Nat) (g : Expr → Bool) (s : Stmt) : Bool :=
  oTst (dXpr s) fun (c, _) => oTst (dCal c) fun (f, v, cp) => oTst (dAtt f) fun (z, m, ap) => oTst (dNam z) fun (x, _) =>
    decide (k.N[i]? = some x) && visB sc x && !(x == ("__debug__" : Str)) && !(x == ("__classdict__" : Str)) && (m == (Str.ofString nm)) && (ap.endLine == cp.line) && plainX v && g v
def ckRai (k : Ck) (sc : Scope) (c : String) (s : Stmt) : Bool :=
  oTst (dRai s) fun (e, _) => oTst (dCal e) fun (f, v, _) => oTst (dNam f) fun (y, _) => oTst (dStr v) fun _ => (y == Str.ofString c) && glB sc y && k.xs.contains c
def ckDput (k : Ck) (sc : Scope) (i : Nat) (g1 g2 : Expr → Bool) (s : Stmt) : Bool :=
  oTst (dAsg s) fun (t, v, _) => oTst (dSub t) fun (z, u, _) => oTst (dNam z) fun (x, _) =>
    decide (k.N[i]? = some x) && visB sc x && !(x == ("__debug__" : Str)) && !(x == ("__classdict__" : Str)) && plainX u && notComp v && g1 u && g2 v
def ckDnew (k : Ck) (sc : Scope) (i : Nat) (s : Stmt) : Bool :=
  oTst (dAsg s) fun (t, v, _) => oTst (dNam t) fun (x, _) => oTst (dDic v) fun _ => decide (k.N[i]? = some x) && locB sc x
mutual
def chkC (k : Ck) (sc : Scope) : C → Stmt → Bool
  | .set i e, s => ckSet k sc i (chkE k sc e) s
  | .own i a, s => decide (a.len ≤ 1000) && ckOwn k sc i (chkEs k sc a) s
  | .unp is e, s => ckUnp k sc is (chkE k sc e) s
  | .par i j a b, s => ckPar k sc i j (chkE k sc a) (chkE k sc b) s
  | .parG is ps, s => ckParG k sc is ps s
  | .aug i op e, s => ckAug k sc i op (chkE k sc e) s
  | .dput i a b, s => ckDput k sc i (chkE k sc a) (chkE k sc b) s
  | .dnew i, s => ckDnew k sc i s
  | .app i e, s => ckMet k sc "append" i (chkE k sc e) s
  | .ext i e, s => ckMet k sc "extend" i (chkE k sc e) s
  | .ife c a b, s => oTst (dIfe s) fun (t, x, y, _) => tstX t && chkE k sc c t && chkCs k sc a x && chkCs k sc b y
  | .loop t it b, s => oTst (dFor s) fun (tg, iter, body, _) => plainX iter && chkI k sc it tg iter && chkT k sc t tg && chkCs k sc b body
  | .whl c b, s => oTst (dWhl s) fun (t, body, _) => tstX t && chkE k sc c t && chkCs k sc b body
  | .ret e, s => oTst (dRet s) fun (v, _) => chkE k sc e v
  | .rais c, s => ckRai k sc c s
  | .xpr e, s => oTst (dXpr s) fun (v, _) => notComp v && chkE k sc e v
  | .tryF b i j Ls, s => ckTry k sc i j Ls (chkCs k sc b) s
def chkCs (k : Ck) (sc : Scope) : Cs → List Stmt → Bool
  | .nil, [] => true
  | .cons a b, s :: ss => chkC k sc a s && chkCs k sc b ss
  | _, _ => false
end
section
variable {X : Cx} {O : Orc} {k : Ck} {sc : Scope} {lo fu : Nat} {W : WX} {B : Fr0} {P : Addr → HO → Prop} {Z : Addr → Prop} {A : List Addr} {a b c tg : Expr} {ea eb ec : E} {pos : Pos}
theorem lcl_of {x : Str} (h : lcl sc x = true) : sc.names.lookup x = some .local := by
  unfold lcl at h
  split at h
  · assumption
  · cases h
theorem notLocal_of {x : Str} (h : notLocal sc x = true) : sc.names.lookup x = some .cell := by
  unfold notLocal at h
  split at h
  · assumption
  · cases h
theorem notTup_of {e : Expr} (h : notTup e = true) : notComp e = true := by
  cases e <;> first | rfl | cases h
theorem swq_of {e : Expr} {ts : List Expr} {kk : Nat} {tp : Pos} (h : notTup e = true) (env : PySem.Env) : swappedStores [.Tuple ts kk tp] e env = pure none := by
  cases e <;> first | rfl | cases h
theorem swp_plain {e : Expr} (h : plainX e = true) (hc : ∀ a b c d, e ≠ .ListComp a b c d) (t : Option Expr) (l : Nat) (env : PySem.Env) : swapsWith e t l env = pure false := by
  cases e <;> first | rfl | exact absurd rfl (hc _ _ _ _) | cases h
theorem sw_cell {el : Expr} {gs : List Comprehension} {scope : Scope} {p py : Pos} {y : Str} {l : Nat} {env : PySem.Env} (hy : env.scope.names.lookup y = some .cell) : swapsWith (.ListComp el gs scope p) (some (.Name y py)) l env = pure false := by
  have ky : (env.kindOf y == some .local) = false := by
    show (env.scope.names.lookup y == some .local) = false
    rw [hy]; rfl
  unfold swapsWith
  simp [ky]
theorem sw_par {env : PySem.Env} {x y : Str} {px py pt pt2 : Pos} {kt k2 : Nat} {u v : Expr} (hk : env.scope.kind = .function) (hx : env.scope.names.lookup x = some .local) (hy : env.scope.names.lookup y = some .local) (hl : (py.line == px.line) = true) (hne : (x == y) = false)
    (p1 : plainX u = true) (p2 : plainX v = true) (f : [u, v].all (foldedForSure 8) = false) (g : [u, v].all (constantsAlone 8) = false) : swappedStores [.Tuple [.Name x px, .Name y py] kt pt] (.Tuple [u, v] k2 pt2) env = pure (some [x, y]) := by
  have kx : env.kindOf x = some .local := hx
  have ky : env.kindOf y = some .local := hy
  have hb : env.blockKind = .function := by unfold PySem.Env.blockKind; rw [hk]; rfl
  have st : ([u, v].any fun | .Starred .. => true | _ => false) = false := by
    cases u <;> first | exact absurd (show false = true from p1) Bool.false_ne_true | (cases v <;> first | rfl | exact absurd (show false = true from p2) Bool.false_ne_true)
  have nx : ([x, y].eraseDups.length != 2) = false := by
    have hyx : (!y == x) = true := by
      cases h : y == x
      · rfl
      · have e : y = x := LawfulBEq.eq_of_beq h
        rw [e] at hne
        rw [beq_self_eq_true] at hne
        cases hne
    rw [List.eraseDups_cons]
    have e : [y].filter (fun b => !b == x) = [y] := by rw [List.filter_cons, hyx]; rfl
    rw [e]; rfl
  have nm : ([Expr.Name x px, Expr.Name y py].filterMap fun
    | .Name id pos => if env.kindOf id == some .local && pos.line == px.line then some id else none
    | _ => none) = [x, y] := by
    rw [List.filterMap_cons_some (b := x), List.filterMap_cons_some (b := y)]
    · rfl
    · show (if _ then _ else _) = _
      rw [ky, hl]; rfl
    · show (if (env.kindOf x == some .local && px.line == px.line) = true then some x else none) = _
      rw [kx, beq_self_eq_true (px.line)]; rfl
  unfold swappedStores
  have q0 : (!([Expr.Name x px, Expr.Name y py].length == 2 || [Expr.Name x px, Expr.Name y py].length == 3) || [u, v].length != [Expr.Name x px, Expr.Name y py].length || env.blockKind != .function) = false := by
    rw [hb]; rfl
  show (if (!([Expr.Name x px, Expr.Name y py].length == 2 || [Expr.Name x px, Expr.Name y py].length == 3) || [u, v].length != [Expr.Name x px, Expr.Name y py].length || env.blockKind != .function) = true then _ else _) = _
  rw [q0, if_neg Bool.false_ne_true]
  show (if ([u, v].any fun | .Starred .. => true | _ => false) = true then _ else _) = _
  rw [st, if_neg Bool.false_ne_true]
  show (if (([Expr.Name x px, Expr.Name y py].filterMap fun
    | .Name id pos => if env.kindOf id == some .local && pos.line == px.line then some id else none
    | _ => none).length != 2 || ([Expr.Name x px, Expr.Name y py].filterMap fun
    | .Name id pos => if env.kindOf id == some .local && pos.line == px.line then some id else none
    | _ => none).eraseDups.length != ([Expr.Name x px, Expr.Name y py].filterMap fun
    | .Name id pos => if env.kindOf id == some .local && pos.line == px.line then some id else none
    | _ => none).length) = true then _ else _) = _
  have q1 : (([x, y] : List Str).length != 2 || [x, y].eraseDups.length != [x, y].length) = false := nx
  rw [nm, q1, if_neg Bool.false_ne_true]
  show (if ([u, v].all (foldedForSure 8)) = true then _ else _) = _
  rw [f, if_neg Bool.false_ne_true]
  show (if ([u, v].all (constantsAlone 8)) = true then _ else _) = _
  rw [g, if_neg Bool.false_ne_true]
  show pure (some ([Expr.Name x px, Expr.Name y py].filterMap fun
    | .Name id pos => if env.kindOf id == some .local && pos.line == px.line then some id else none
    | _ => none)) = _
  rw [nm]
theorem sw_none {env : PySem.Env} {x y : Str} {px py pt pt2 : Pos} {kt k2 : Nat} {u v : Expr} (hk : env.scope.kind = .function) (p1 : plainX u = true) (p2 : plainX v = true) (h : env.scope.names.lookup x = some .cell ∨ env.scope.names.lookup y = some .cell ∨ [u, v].all (foldedForSure 8) = true) :
    swappedStores [.Tuple [.Name x px, .Name y py] kt pt] (.Tuple [u, v] k2 pt2) env = pure none := by
  have hb : env.blockKind = .function := by unfold PySem.Env.blockKind; rw [hk]; rfl
  have st : ([u, v].any fun | .Starred .. => true | _ => false) = false := by
    cases u <;> first | exact absurd (show false = true from p1) Bool.false_ne_true | (cases v <;> first | rfl | exact absurd (show false = true from p2) Bool.false_ne_true)
  unfold swappedStores
  have q0 : (!([Expr.Name x px, Expr.Name y py].length == 2 || [Expr.Name x px, Expr.Name y py].length == 3) || [u, v].length != [Expr.Name x px, Expr.Name y py].length || env.blockKind != .function) = false := by
    rw [hb]; rfl
  show (if (!([Expr.Name x px, Expr.Name y py].length == 2 || [Expr.Name x px, Expr.Name y py].length == 3) || [u, v].length != [Expr.Name x px, Expr.Name y py].length || env.blockKind != .function) = true then _ else _) = _
  rw [q0, if_neg Bool.false_ne_true]
  show (if ([u, v].any fun | .Starred .. => true | _ => false) = true then _ else _) = _
  rw [st, if_neg Bool.false_ne_true]
  show (if (([Expr.Name x px, Expr.Name y py].filterMap fun
    | .Name id pos => if env.kindOf id == some .local && pos.line == px.line then some id else none
    | _ => none).length != 2 || ([Expr.Name x px, Expr.Name y py].filterMap fun
    | .Name id pos => if env.kindOf id == some .local && pos.line == px.line then some id else none
    | _ => none).eraseDups.length != ([Expr.Name x px, Expr.Name y py].filterMap fun
    | .Name id pos => if env.kindOf id == some .local && pos.line == px.line then some id else none
    | _ => none).length) = true then _ else _) = _
  have key : ∀ F : Expr → Option Str, (F (.Name x px) = none ∨ F (.Name y py) = none) → (([Expr.Name x px, Expr.Name y py].filterMap F).length != 2) = true := fun F hF => by
    rcases hF with e | e
    · rw [List.filterMap_cons_none e]
      cases e2 : F (.Name y py) with
      | none => rw [List.filterMap_cons_none e2]; rfl
      | some z => rw [List.filterMap_cons_some e2]; rfl
    · cases e2 : F (.Name x px) with
      | none => rw [List.filterMap_cons_none e2, List.filterMap_cons_none e]; rfl
      | some z => rw [List.filterMap_cons_some e2, List.filterMap_cons_none e]; rfl
  have cell : ∀ (z : Str) (pz : Pos), env.scope.names.lookup z = some .cell → (if (env.kindOf z == some .local && pz.line == px.line) = true then some z else none) = none := fun z pz hz => by
    have : env.kindOf z = some .cell := hz
    rw [this]; rfl
  rcases h with h | h | h
  · rw [key _ (.inl (cell x px h)), Bool.true_or, if_pos rfl]
  · rw [key _ (.inr (cell y py h)), Bool.true_or, if_pos rfl]
  · rw [h]
    split <;> rfl
theorem sym_ne {x y : Str} (h : (x == y) = false) : (y == x) = false := by
  cases q : y == x
  · rfl
  · have e : y = x := LawfulBEq.eq_of_beq q
    rw [e, beq_self_eq_true] at h
    cases h
theorem nstar_of {vs : List Expr} (h : vs.all plainX = true) : (vs.any fun | .Starred .. => true | _ => false) = false := by
  induction vs with
  | nil => rfl
  | cons v vs ih =>
    obtain ⟨h1, h2⟩ := and3 h
    rw [List.any_cons, ih h2]
    cases v <;> first | rfl | exact absurd (show false = true from h1) Bool.false_ne_true
theorem sw_par2 {env : PySem.Env} {x y : Str} {px py pt pt2 : Pos} {kt k2 : Nat} {u v : Expr} (hk : env.scope.kind = .function) (hx : env.scope.names.lookup x = some .local) (hy : env.scope.names.lookup y = some .local) (hl : (py.line == px.line) = true) (hne : (x == y) = false)
    (p : [u, v].all plainX = true) (f : [u, v].all (foldedForSure 8) = false) (g : [u, v].all (constantsAlone 8) = false) : swappedStores [.Tuple [.Name x px, .Name y py] kt pt] (.Tuple [u, v] k2 pt2) env = pure (some [x, y]) := by
  obtain ⟨p1, p2⟩ := and3 p
  obtain ⟨p2, _⟩ := and3 p2
  exact sw_par hk hx hy hl hne p1 p2 f g
theorem sw_par3 {env : PySem.Env} {x y z : Str} {px py pz pt pt2 : Pos} {kt k2 : Nat} {u v w : Expr} (hk : env.scope.kind = .function) (hx : env.scope.names.lookup x = some .local) (hy : env.scope.names.lookup y = some .local) (hz : env.scope.names.lookup z = some .local)
    (hl : (py.line == px.line) = true) (hl2 : (pz.line == px.line) = true) (hne : (x == y) = false) (hne2 : (x == z) = false) (hne3 : (y == z) = false)
    (p : [u, v, w].all plainX = true) (f : [u, v, w].all (foldedForSure 8) = false) (g : [u, v, w].all (constantsAlone 8) = false) : swappedStores [.Tuple [.Name x px, .Name y py, .Name z pz] kt pt] (.Tuple [u, v, w] k2 pt2) env = pure (some [x, y, z]) := by
  have kx : env.kindOf x = some .local := hx
  have ky : env.kindOf y = some .local := hy
  have kz : env.kindOf z = some .local := hz
  have hb : env.blockKind = .function := by unfold PySem.Env.blockKind; rw [hk]; rfl
  have st := nstar_of p
  have h1 := sym_ne hne
  have h2 := sym_ne hne2
  have h3 := sym_ne hne3
  have e3 : [x, y, z].eraseDups = [x, y, z] := by
    rw [List.eraseDups_cons]
    have e : [y, z].filter (fun b => !b == x) = [y, z] := by rw [List.filter_cons, h1, List.filter_cons, h2]; rfl
    rw [e, List.eraseDups_cons]
    have e : [z].filter (fun b => !b == y) = [z] := by rw [List.filter_cons, h3]; rfl
    rw [e]; rfl
  have nm : ([Expr.Name x px, Expr.Name y py, Expr.Name z pz].filterMap fun
    | .Name id pos => if env.kindOf id == some .local && pos.line == px.line then some id else none
    | _ => none) = [x, y, z] := by
    rw [List.filterMap_cons_some (b := x), List.filterMap_cons_some (b := y), List.filterMap_cons_some (b := z)]
    · rfl
    · show (if _ then _ else _) = _
      rw [kz, hl2]; rfl
    · show (if _ then _ else _) = _
      rw [ky, hl]; rfl
    · show (if (env.kindOf x == some .local && px.line == px.line) = true then some x else none) = _
      rw [kx, beq_self_eq_true (px.line)]; rfl
  unfold swappedStores
  show (if (!([Expr.Name x px, Expr.Name y py, Expr.Name z pz].length == 2 || [Expr.Name x px, Expr.Name y py, Expr.Name z pz].length == 3) || [u, v, w].length != [Expr.Name x px, Expr.Name y py, Expr.Name z pz].length || env.blockKind != .function) = true then _ else _) = _
  have q0 : (!([Expr.Name x px, Expr.Name y py, Expr.Name z pz].length == 2 || [Expr.Name x px, Expr.Name y py, Expr.Name z pz].length == 3) || [u, v, w].length != [Expr.Name x px, Expr.Name y py, Expr.Name z pz].length || env.blockKind != .function) = false := by
    rw [hb]; rfl
  rw [q0, if_neg Bool.false_ne_true]
  show (if ([u, v, w].any fun | .Starred .. => true | _ => false) = true then _ else _) = _
  rw [st, if_neg Bool.false_ne_true]
  show (if (([Expr.Name x px, Expr.Name y py, Expr.Name z pz].filterMap fun
    | .Name id pos => if env.kindOf id == some .local && pos.line == px.line then some id else none
    | _ => none).length != 3 || ([Expr.Name x px, Expr.Name y py, Expr.Name z pz].filterMap fun
    | .Name id pos => if env.kindOf id == some .local && pos.line == px.line then some id else none
    | _ => none).eraseDups.length != ([Expr.Name x px, Expr.Name y py, Expr.Name z pz].filterMap fun
    | .Name id pos => if env.kindOf id == some .local && pos.line == px.line then some id else none
    | _ => none).length) = true then _ else _) = _
  have q1 : (([x, y, z] : List Str).length != 3 || [x, y, z].eraseDups.length != [x, y, z].length) = false := by rw [e3]; rfl
  rw [nm, q1, if_neg Bool.false_ne_true]
  show (if ([u, v, w].all (foldedForSure 8)) = true then _ else _) = _
  rw [f, if_neg Bool.false_ne_true]
  show (if ([u, v, w].all (constantsAlone 8)) = true then _ else _) = _
  rw [g, if_neg Bool.false_ne_true]
  show pure (some ([Expr.Name x px, Expr.Name y py, Expr.Name z pz].filterMap fun
    | .Name id pos => if env.kindOf id == some .local && pos.line == px.line then some id else none
    | _ => none)) = _
  rw [nm]
theorem bneg {b : Bool} (h : (!b) = true) : b = false := by rw [Bool.not_eq_true'] at h; exact h

theorem q_setC {i : Nat} {x : Str} {px p2 : Pos} {vs : List Nat} {t : T} {it : I} {cc : Option E} {y : E} {e iter : Expr} {ifs : List Expr} {scope : Scope} (ok : XOk X O k sc sc) (tk : Takes X W) (kf : X.env.scope.kind = .function) (h1 : k.N[i]? = some x) (hx : lcl sc x = true) (hl : (px.line == p2.line) = true)
    (ha : (scope.names.any fun (n, q) => n == x && (q == .local || q == .cell)) = false) (h : chkE k sc (.comp vs t it cc y) (.ListComp e [⟨tg, iter, ifs, 0⟩] scope p2) = true) :
    PS X (.Assign [.Name x px] (.ListComp e [⟨tg, iter, ifs, 0⟩] scope p2) pos) (tS (fm X O lo W) B P Z A fu (.set i (.comp vs t it cc y))) := by
  have h : (blkC k.N sc scope (ownOf k.N vs) && decide ((ownOf k.N vs).map (·.2) = vs) && (t.slots.all fun i => vs.contains i) && plainX iter && chkI k sc it tg iter &&
    chkT k scope t tg && chkF k (relS scope sc) cc ifs && chkE k (relS scope sc) y e) = true := h
  obtain ⟨h2, h10⟩ := and3 h
  obtain ⟨h3, h9⟩ := and3 h2
  obtain ⟨h4, h8⟩ := and3 h3
  obtain ⟨h5, h7⟩ := and3 h4
  obtain ⟨h6, hp⟩ := and3 h5
  obtain ⟨h11, h12⟩ := and3 h6
  obtain ⟨h13, h14⟩ := and3 h11
  have hb : BlkOk X.N X.env.scope scope (ownOf k.N vs) := by
    rw [ok.N, ok.sc]
    exact blkOk_by h13
  have okb := fun s H C cl fp => ok.blk hb s H C cl fp
  have hs : ∀ i ∈ t.slots, i ∈ vs := fun i hi => by
    have := List.all_eq_true.mp h12 i hi
    simpa using this
  have hyl : X.env.scope.names.lookup x = some .local := by rw [ok.sc]; exact lcl_of hx
  refine PS_imp (ps_setLc (i := i) (wi := tI (fm X O lo W) it) (g := tT (fm X O lo W0) t) (tt := tTc (fm X O lo W0) cc) (te := tE (fm X O lo W0) y) ok.calm ok.nd (by rw [ok.N]; exact h1) hyl (sw_true kf hyl hl ha) (snd_I (lo := lo) it X sc sc W tg iter ok tk h7) hb (fun s H C cl fp => s_tgt (lo := lo) (W := W0) (okb s H C cl fp) h8)
    (fun s H C cl fp => snd_F (lo := lo) cc _ _ _ W0 _ (okb s H C cl fp) takes0 h9) (fun s H C cl fp => snd_E (lo := lo) y _ _ _ W0 _ (okb s H C cl fp) takes0 h10) (fold_of hp _)) fun D σ H ⟨env, ρ, S, sv, h⟩ => ?_
  rw [of_decide_eq_true h14]
  simp only [exC] at h
  exact i_comp hs σ H _ ⟨env, ρ, S, B.Y, sv.fs, PoS.rs sv h fun w S1 v H1 _ _ cf rw sv1 h1 => h1 _ H1 ρ (sv1.set rw)⟩
theorem cq_set {i : Nat} {e : E} {s : Stmt} (ok : XOk X O k sc sc) (tk : Takes X W) (kf : X.env.scope.kind = .function) (h : ckSet k sc i (chkE k sc e) s = true) : PS X s (tS (fm X O lo W) B P Z A fu (.set i e)) := by
  obtain ⟨⟨t, v, p⟩, e1, h⟩ := oTst_eq h
  obtain ⟨⟨y, px⟩, e2, h⟩ := oTst_eq h
  have e1 := dAsg_eq e1
  have e2 := dNam_eq e2
  subst e1; subst e2
  obtain ⟨h1, h4⟩ := and3 h
  obtain ⟨h2, h3⟩ := and3 h1
  obtain ⟨h5, h6⟩ := and3 h2
  cases hd : dLcp v with
  | none =>
    have hp : plainX v = true := by
      have h4 : (match dLcp v with
        | some (scope, p2) => notLocal sc y || (lcl sc y && (px.line == p2.line) && !(scope.names.any fun (n, q) => n == y && (q == .local || q == .cell)))
        | none => plainX v) = true := h4
      rw [hd] at h4; exact h4
    exact q_set ok (of_decide_eq_true h5) h6 (swp_plain hp (dLcp_no hd) _ _ _) (snd_E e X sc sc W _ ok tk h3)
  | some sp =>
    obtain ⟨scope, p2⟩ := sp
    have h4 : (match dLcp v with
        | some (scope, p2) => notLocal sc y || (lcl sc y && (px.line == p2.line) && !(scope.names.any fun (n, q) => n == y && (q == .local || q == .cell)))
        | none => plainX v) = true := h4
    rw [hd] at h4
    have h4 : (notLocal sc y || (lcl sc y && (px.line == p2.line) && !(scope.names.any fun (n, q) => n == y && (q == .local || q == .cell)))) = true := h4
    obtain ⟨el, gs, e1⟩ := dLcp_eq hd
    subst e1
    rcases Bool.or_eq_true_iff.mp h4 with q | q
    · exact q_set ok (of_decide_eq_true h5) h6 (sw_cell (by rw [ok.sc]; exact notLocal_of q)) (snd_E e X sc sc W _ ok tk h3)
    · obtain ⟨q1, q2⟩ := and3 q
      obtain ⟨q3, q4⟩ := and3 q1
      have q2 : (scope.names.any fun (n, q) => n == y && (q == .local || q == .cell)) = false := by
        have q2' : (!(scope.names.any fun (n, q) => n == y && (q == .local || q == .cell))) = true := q2
        revert q2'
        cases (scope.names.any fun (n, q) => n == y && (q == .local || q == .cell)) <;> simp
      match e, gs, h3 with
      | .comp vs t it cc z, [⟨tg, iter, ifs, 0⟩], h3 => exact q_setC ok tk kf (of_decide_eq_true h5) q3 q4 q2 h3
theorem cq_own {i : Nat} {a : Es} {s : Stmt} {g : List Expr → Bool} (ok : XOk X O k sc sc) (hg : ∀ es, g es = true → PA X es (tEs (fm X O lo W) a)) (hl : a.len ≤ 1000) (h : ckOwn k sc i g s = true) : PS X s (tS (fm X O lo W) B P Z A fu (.own i a)) := by
  obtain ⟨⟨t, v, p⟩, e1, h⟩ := oTst_eq h
  obtain ⟨⟨y, px⟩, e2, h⟩ := oTst_eq h
  obtain ⟨⟨es, p2⟩, e3, h⟩ := oTst_eq h
  have e1 := dAsg_eq e1
  have e2 := dNam_eq e2
  have e3 := dLis_eq e3
  subst e1; subst e2; subst e3
  obtain ⟨h2, h3⟩ := and3 h
  obtain ⟨h5, h6⟩ := and3 h2
  exact q_own ok (of_decide_eq_true h5) h6 hl (hg _ h3)
theorem cq_unp {is : List Nat} {e : E} {s : Stmt} {g : Expr → Bool} (ok : XOk X O k sc sc) (kf : X.env.scope.kind = .function) (hg : ∀ v, g v = true → PE X v (tE (fm X O lo W) e)) (h : ckUnp k sc is g s = true) : PS X s (tS (fm X O lo W) B P Z A fu (.unp is e)) := by
  obtain ⟨⟨t, v, p⟩, e1, h⟩ := oTst_eq h
  obtain ⟨⟨ts, kk, tp⟩, e2, h⟩ := oTst_eq h
  have e1 := dAsg_eq e1
  have e2 := dTup_eq e2
  subst e1; subst e2
  obtain ⟨h1, h4⟩ := and3 h
  obtain ⟨h2, h3⟩ := and3 h1
  rcases Bool.or_eq_true_iff.mp h3 with h3 | h3
  · exact q_unp ok h2 (swp_of (notTup_of h3) (some (.Tuple ts kk tp)) p.line X.env) (swq_of h3 _) (hg _ h4)
  · obtain ⟨⟨t1, t2⟩, e3, h3⟩ := oTst_eq h3
    obtain ⟨⟨x, px⟩, e4, h3⟩ := oTst_eq h3
    obtain ⟨⟨y, py⟩, e5, h3⟩ := oTst_eq h3
    obtain ⟨⟨vs, k2, p2⟩, e6, h3⟩ := oTst_eq h3
    obtain ⟨⟨u, w⟩, e7, h3⟩ := oTst_eq h3
    have e3 := dTwo_eq e3
    have e4 := dNam_eq e4
    have e5 := dNam_eq e5
    have e6 := dTup_eq e6
    have e7 := dTwo_eq e7
    subst e4 e5 e6 e3 e7
    obtain ⟨h5, h7⟩ := and3 h3
    obtain ⟨h5, h6⟩ := and3 h5
    refine q_unp ok h2 (by rfl) (sw_none kf h5 h6 ?_) (hg _ h4)
    rw [ok.sc]
    rcases Bool.or_eq_true_iff.mp h7 with h7 | h7
    · rcases Bool.or_eq_true_iff.mp h7 with h7 | h7
      · exact .inl (notLocal_of h7)
      · exact .inr (.inl (notLocal_of h7))
    · exact .inr (.inr h7)
theorem cq_par {i j : Nat} {a b : E} {s : Stmt} {g1 g2 : Expr → Bool} (ok : XOk X O k sc sc) (kf : X.env.scope.kind = .function) (hg1 : ∀ v, g1 v = true → PE X v (tE (fm X O lo W) a)) (hg2 : ∀ v, g2 v = true → PE X v (tE (fm X O lo W) b)) (h : ckPar k sc i j g1 g2 s = true) : PS X s (tS (fm X O lo W) B P Z A fu (.par i j a b)) := by
  obtain ⟨⟨t, v, p⟩, e1, h⟩ := oTst_eq h
  obtain ⟨⟨ts, kk, tp⟩, e2, h⟩ := oTst_eq h
  obtain ⟨⟨t1, t2⟩, e3, h⟩ := oTst_eq h
  obtain ⟨⟨y, py⟩, e4, h⟩ := oTst_eq h
  obtain ⟨⟨z, pz⟩, e5, h⟩ := oTst_eq h
  obtain ⟨⟨vs, k2, pt2⟩, e6, h⟩ := oTst_eq h
  obtain ⟨⟨u, w⟩, e7, h⟩ := oTst_eq h
  have e1 := dAsg_eq e1
  have e2 := dTup_eq e2
  have e3 := dTwo_eq e3
  have e4 := dNam_eq e4
  have e5 := dNam_eq e5
  have e6 := dTup_eq e6
  have e7 := dTwo_eq e7
  subst e1 e2 e3 e4 e5 e6 e7
  obtain ⟨h, g13⟩ := and3 h
  obtain ⟨h, g12⟩ := and3 h
  obtain ⟨h, g11⟩ := and3 h
  obtain ⟨h, g10⟩ := and3 h
  obtain ⟨h, g9⟩ := and3 h
  obtain ⟨h, g8⟩ := and3 h
  obtain ⟨h, g7⟩ := and3 h
  obtain ⟨h, g6⟩ := and3 h
  obtain ⟨h, g5⟩ := and3 h
  obtain ⟨h, g4⟩ := and3 h
  obtain ⟨h, g3⟩ := and3 h
  obtain ⟨g1, g2⟩ := and3 h
  have l1 : X.env.scope.names.lookup y = some .local := by rw [ok.sc]; exact lcl_of g4
  have l2 : X.env.scope.names.lookup z = some .local := by rw [ok.sc]; exact lcl_of g5
  have g7 : (y == z) = false := by rw [Bool.not_eq_true'] at g7; exact g7
  have g8 : [u, w].all (foldedForSure 8) = false := by rw [Bool.not_eq_true'] at g8; exact g8
  have g9 : [u, w].all (constantsAlone 8) = false := by rw [Bool.not_eq_true'] at g9; exact g9
  exact q_par ok (of_decide_eq_true g1) (of_decide_eq_true g2) (of_decide_eq_true g3) l1 l2 (hg1 _ g12) (hg2 _ g13) g10 g11 (sw_par kf l1 l2 g6 g7 g10 g11 g8 g9)
theorem cq_parG {is : List Nat} {ps : List Pe} {s : Stmt} (ok : XOk X O k sc sc) (kf : X.env.scope.kind = .function) (hE : ∀ (e : E) (x : Expr), chkE k sc e x = true → PE X x (tE (fm X O lo W) e)) (hA : ∀ (e : Es) (x : List Expr), chkEs k sc e x = true → PA X x (tEs (fm X O lo W) e)) (h : ckParG k sc is ps s = true) :
    PS X s (tS (fm X O lo W) B P Z A fu (.parG is ps)) := by
  match is, h with
  | [i, j], h =>
    obtain ⟨⟨t, v, p⟩, e1, h⟩ := oTst_eq h
    obtain ⟨⟨ts, kt, pt⟩, e2, h⟩ := oTst_eq h
    obtain ⟨⟨t1, t2⟩, e3, h⟩ := oTst_eq h
    obtain ⟨⟨x, px⟩, e4, h⟩ := oTst_eq h
    obtain ⟨⟨y, py⟩, e5, h⟩ := oTst_eq h
    obtain ⟨⟨vs, k2, pt2⟩, e6, h⟩ := oTst_eq h
    obtain ⟨⟨u, w⟩, e7, h⟩ := oTst_eq h
    have e1 := dAsg_eq e1
    have e2 := dTup_eq e2
    have e3 := dTwo_eq e3
    have e4 := dNam_eq e4
    have e5 := dNam_eq e5
    have e6 := dTup_eq e6
    have e7 := dTwo_eq e7
    subst e1 e2 e3 e4 e5 e6 e7
    obtain ⟨h, g11⟩ := and3 h
    obtain ⟨h, g10⟩ := and3 h
    obtain ⟨h, g9⟩ := and3 h
    obtain ⟨h, g8⟩ := and3 h
    obtain ⟨h, g7⟩ := and3 h
    obtain ⟨h, g6⟩ := and3 h
    obtain ⟨h, g5⟩ := and3 h
    obtain ⟨h, g4⟩ := and3 h
    obtain ⟨h, g3⟩ := and3 h
    obtain ⟨g1, g2⟩ := and3 h
    have l1 : X.env.scope.names.lookup x = some .local := by rw [ok.sc]; exact lcl_of g4
    have l2 : X.env.scope.names.lookup y = some .local := by rw [ok.sc]; exact lcl_of g5
    exact q_parG2 ok (of_decide_eq_true g10) (of_decide_eq_true g1) (of_decide_eq_true g2) (of_decide_eq_true g3) l1 l2 (q_P hE hA g11) (sw_par2 kf l1 l2 g6 (bneg g7) (chkP_plain g11) (bneg g8) (bneg g9))
  | [i, j, l], h =>
    obtain ⟨⟨t, v, p⟩, e1, h⟩ := oTst_eq h
    obtain ⟨⟨ts, kt, pt⟩, e2, h⟩ := oTst_eq h
    obtain ⟨⟨t1, t2, t3⟩, e3, h⟩ := oTst_eq h
    obtain ⟨⟨x, px⟩, e4, h⟩ := oTst_eq h
    obtain ⟨⟨y, py⟩, e5, h⟩ := oTst_eq h
    obtain ⟨⟨z, pz⟩, e8, h⟩ := oTst_eq h
    obtain ⟨⟨vs, k2, pt2⟩, e6, h⟩ := oTst_eq h
    obtain ⟨⟨u, v', w⟩, e7, h⟩ := oTst_eq h
    have e1 := dAsg_eq e1
    have e2 := dTup_eq e2
    have e3 := dThr_eq e3
    have e4 := dNam_eq e4
    have e5 := dNam_eq e5
    have e8 := dNam_eq e8
    have e6 := dTup_eq e6
    have e7 := dThr_eq e7
    subst e1 e2 e3 e4 e5 e8 e6 e7
    obtain ⟨h, g16⟩ := and3 h
    obtain ⟨h, g15⟩ := and3 h
    obtain ⟨h, g14⟩ := and3 h
    obtain ⟨h, g13⟩ := and3 h
    obtain ⟨h, g12⟩ := and3 h
    obtain ⟨h, g11⟩ := and3 h
    obtain ⟨h, g10⟩ := and3 h
    obtain ⟨h, g9⟩ := and3 h
    obtain ⟨h, g8⟩ := and3 h
    obtain ⟨h, g7⟩ := and3 h
    obtain ⟨h, g6⟩ := and3 h
    obtain ⟨h, g5⟩ := and3 h
    obtain ⟨h, g4⟩ := and3 h
    obtain ⟨h, g3⟩ := and3 h
    obtain ⟨g1, g2⟩ := and3 h
    obtain ⟨d1, d2, d3⟩ := of_decide_eq_true g4
    have l1 : X.env.scope.names.lookup x = some .local := by rw [ok.sc]; exact lcl_of g5
    have l2 : X.env.scope.names.lookup y = some .local := by rw [ok.sc]; exact lcl_of g6
    have l3 : X.env.scope.names.lookup z = some .local := by rw [ok.sc]; exact lcl_of g7
    exact q_parG3 ok (of_decide_eq_true g15) (of_decide_eq_true g1) (of_decide_eq_true g2) (of_decide_eq_true g3) d1 d2 d3 l1 l2 l3 (q_P hE hA g16) (sw_par3 kf l1 l2 l3 g8 g9 (bneg g10) (bneg g11) (bneg g12) (chkP_plain g16) (bneg g13) (bneg g14))
theorem cq_aug {i : Nat} {op : Bop} {e : E} {s : Stmt} {g : Expr → Bool} (ok : XOk X O k sc sc) (hg : ∀ v, g v = true → PE X v (tE (fm X O lo W) e)) (h : ckAug k sc i op g s = true) : PS X s (tS (fm X O lo W) B P Z A fu (.aug i op e)) := by
  obtain ⟨⟨t, oq, v, p⟩, e1, h⟩ := oTst_eq h
  obtain ⟨⟨y, px⟩, e2, h⟩ := oTst_eq h
  have e1 := dAug_eq e1
  have e2 := dNam_eq e2
  subst e1 e2
  obtain ⟨h1, h4⟩ := and3 h
  obtain ⟨h2, h3⟩ := and3 h1
  obtain ⟨h5, h6⟩ := and3 h2
  exact q_aug ok (of_decide_eq_true h5) h6 h3 (hg _ h4)
theorem beqF {x y : Str} (h : (!(x == y)) = true) : (x == y) = false := by
  rw [Bool.not_eq_true'] at h; exact h
theorem ck_met {nm : String} {i : Nat} {s : Stmt} {g : Expr → Bool} (h : ckMet k sc nm i g s = true) : ∃ y px m ap v cp p, s = .Expr (.Call (.Attribute (.Name y px) m ap) [v] [] cp) p ∧ k.N[i]? = some y ∧ visB sc y = true ∧ (y == ("__debug__" : Str)) = false ∧ (y == ("__classdict__" : Str)) = false ∧ m = Str.ofString nm ∧ (ap.endLine == cp.line) = true ∧ plainX v = true ∧ g v = true := by
  obtain ⟨⟨c, p⟩, e1, h⟩ := oTst_eq h
  obtain ⟨⟨f, v, cp⟩, e2, h⟩ := oTst_eq h
  obtain ⟨⟨z, m, ap⟩, e3, h⟩ := oTst_eq h
  obtain ⟨⟨y, px⟩, e4, h⟩ := oTst_eq h
  have e1 := dXpr_eq e1
  have e2 := dCal_eq e2
  have e3 := dAtt_eq e3
  have e4 := dNam_eq e4
  subst e1 e2 e3 e4
  obtain ⟨h, g8⟩ := and3 h
  obtain ⟨h, g7⟩ := and3 h
  obtain ⟨h, g6⟩ := and3 h
  obtain ⟨h, g5⟩ := and3 h
  obtain ⟨h, g4⟩ := and3 h
  obtain ⟨h, g3⟩ := and3 h
  obtain ⟨g1, g2⟩ := and3 h
  exact ⟨_, _, _, _, _, _, _, rfl, of_decide_eq_true g1, g2, beqF g3, beqF g4, LawfulBEq.eq_of_beq g5, g6, g7, g8⟩
theorem cq_dput {i : Nat} {a b : E} {s : Stmt} {g1 g2 : Expr → Bool} (ok : XOk X O k sc sc) (h1 : ∀ v, g1 v = true → PE X v (tE (fm X O lo W) a)) (h2 : ∀ v, g2 v = true → PE X v (tE (fm X O lo W) b)) (h : ckDput k sc i g1 g2 s = true) : PS X s (tS (fm X O lo W) B P Z A fu (.dput i a b)) := by
  obtain ⟨⟨t, v, p⟩, e1, h⟩ := oTst_eq h
  obtain ⟨⟨z, u, p2⟩, e2, h⟩ := oTst_eq h
  obtain ⟨⟨x, px⟩, e3, h⟩ := oTst_eq h
  have e1 := dAsg_eq e1
  have e2 := dSub_eq e2
  have e3 := dNam_eq e3
  subst e1; subst e2; subst e3
  obtain ⟨h, g8⟩ := and3 h
  obtain ⟨h, g7⟩ := and3 h
  obtain ⟨h, g6⟩ := and3 h
  obtain ⟨h, g5⟩ := and3 h
  obtain ⟨h, g4⟩ := and3 h
  obtain ⟨h, g3⟩ := and3 h
  obtain ⟨g1', g2'⟩ := and3 h
  exact q_dput ok (of_decide_eq_true g1') g2' (beqF g3) (beqF g4) (noSl_of g5) (swp_of g6 _ _ _) (h1 _ g7) (h2 _ g8)
theorem cq_dnew {i : Nat} {s : Stmt} (ok : XOk X O k sc sc) (h : ckDnew k sc i s = true) : PS X s (tS (fm X O lo W) B P Z A fu (.dnew i)) := by
  obtain ⟨⟨t, v, p⟩, e1, h⟩ := oTst_eq h
  obtain ⟨⟨x, px⟩, e2, h⟩ := oTst_eq h
  obtain ⟨p2, e3, h⟩ := oTst_eq h
  have e1 := dAsg_eq e1
  have e2 := dNam_eq e2
  have e3 := dDic_eq e3
  subst e1; subst e2; subst e3
  obtain ⟨g1, g2⟩ := and3 h
  exact q_dnew ok (of_decide_eq_true g1) g2
theorem cq_rai {c : String} {s : Stmt} (ok : XOk X O k sc sc) (tk : Takes X W) (ex : ∀ c ∈ k.xs, ExOk X c) (h : ckRai k sc c s = true) : PS X s (tS (fm X O lo W) B P Z A fu (.rais c)) := by
  obtain ⟨⟨e, p⟩, e1, h⟩ := oTst_eq h
  obtain ⟨⟨f, v, p3⟩, e2, h⟩ := oTst_eq h
  obtain ⟨⟨y, p1⟩, e3, h⟩ := oTst_eq h
  obtain ⟨⟨m, j, p2⟩, e4, h⟩ := oTst_eq h
  have e1 := dRai_eq e1
  have e2 := dCal_eq e2
  have e3 := dNam_eq e3
  have e4 := dStr_eq e4
  subst e1 e2 e3 e4
  obtain ⟨h1, h4⟩ := and3 h
  obtain ⟨h2, h3⟩ := and3 h1
  exact q_rais ok tk (LawfulBEq.eq_of_beq h2) h3 (ex c (by simpa using h4))
mutual
theorem snd_C : ∀ (e : C) (X : Cx) (W : WX) (B : Fr0) (P : Addr → HO → Prop) (Z : Addr → Prop) (A : List Addr) (x : Stmt), XOk X O k sc sc → Takes X W → X.env.scope.kind = .function → PassesOwn (model X.prog X.w) X.A X.env X.xe → StX X k →
    chkC k sc e x = true → PS X x (tS (fm X O lo W) B P Z A fu e)
  | .set i e, X, W, B, P, Z, A, x, ok, tk, kf, po, ex, h => cq_set ok tk kf h
  | .own i a, X, W, B, P, Z, A, x, ok, tk, kf, po, ex, h => by
    simp only [chkC] at h
    obtain ⟨h1, h2⟩ := and3 h
    exact cq_own ok (fun es hs => snd_Es a X sc sc W _ ok tk hs) (of_decide_eq_true h1) h2
  | .unp is e, X, W, B, P, Z, A, x, ok, tk, kf, po, ex, h => cq_unp ok kf (fun v hv => snd_E e X sc sc W _ ok tk hv) h
  | .par i j a b, X, W, B, P, Z, A, x, ok, tk, kf, po, ex, h => cq_par ok kf (fun v hv => snd_E a X sc sc W _ ok tk hv) (fun v hv => snd_E b X sc sc W _ ok tk hv) h
  | .parG is ps, X, W, B, P, Z, A, x, ok, tk, kf, po, ex, h => cq_parG ok kf (fun e x q => snd_E e X sc sc W x ok tk q) (fun e x q => snd_Es e X sc sc W x ok tk q) h
  | .aug i op e, X, W, B, P, Z, A, x, ok, tk, kf, po, ex, h => cq_aug ok (fun v hv => snd_E e X sc sc W _ ok tk hv) h
  | .dput i a b, X, W, B, P, Z, A, x, ok, tk, kf, po, ex, h => cq_dput ok (fun v hv => snd_E a X sc sc W _ ok tk hv) (fun v hv => snd_E b X sc sc W _ ok tk hv) h
  | .dnew i, X, W, B, P, Z, A, x, ok, tk, kf, po, ex, h => cq_dnew ok h
  | .app i e, X, W, B, P, Z, A, x, ok, tk, kf, po, ex, h => by
    obtain ⟨y, px, m, ap, v, cp, p, e1, g1, g2, g3, g4, g5, g6, g7, g8⟩ := ck_met h
    subst e1
    exact q_app ok g1 g2 g3 g4 g5 g6 g7 (snd_E e X sc sc W _ ok tk g8)
  | .ext i e, X, W, B, P, Z, A, x, ok, tk, kf, po, ex, h => by
    obtain ⟨y, px, m, ap, v, cp, p, e1, g1, g2, g3, g4, g5, g6, g7, g8⟩ := ck_met h
    subst e1
    exact q_ext ok g1 g2 g3 g4 g5 g6 g7 (snd_E e X sc sc W _ ok tk g8)
  | .ife c a b, X, W, B, P, Z, A, x, ok, tk, kf, po, ex, h => by
    obtain ⟨⟨t, u, v, p⟩, e1, h⟩ := oTst_eq h
    have e1 := dIfe_eq e1
    subst e1
    obtain ⟨h1, h4⟩ := and3 h
    obtain ⟨h2, h3⟩ := and3 h1
    obtain ⟨h5, h6⟩ := and3 h2
    exact q_ife (snd_T c X sc sc W _ ok tk h5 h6).2 (snd_Cs a X W B P Z A _ ok tk kf po ex h3) (snd_Cs b X W B P Z A _ ok tk kf po ex h4)
  | .loop t it b, X, W, B, P, Z, A, x, ok, tk, kf, po, ex, h => by
    obtain ⟨⟨tg, iter, body, p⟩, e1, h⟩ := oTst_eq h
    have e1 := dFor_eq e1
    subst e1
    obtain ⟨h1, h4⟩ := and3 h
    obtain ⟨h2, h3⟩ := and3 h1
    obtain ⟨h5, h6⟩ := and3 h2
    exact q_loop ok po h5 (snd_I it X sc sc W tg iter ok tk h6) (s_tgt ok h3) fun P Z A => snd_Cs b X W B P Z A _ ok tk kf po ex h4
  | .whl c b, X, W, B, P, Z, A, x, ok, tk, kf, po, ex, h => by
    obtain ⟨⟨t, body, p⟩, e1, h⟩ := oTst_eq h
    have e1 := dWhl_eq e1
    subst e1
    obtain ⟨h1, h4⟩ := and3 h
    obtain ⟨h2, h3⟩ := and3 h1
    exact q_whl po (snd_T c X sc sc W _ ok tk h2 h3).2 (snd_Cs b X W B P Z A _ ok tk kf po ex h4)
  | .ret e, X, W, B, P, Z, A, x, ok, tk, kf, po, ex, h => by
    obtain ⟨⟨v, p⟩, e1, h⟩ := oTst_eq h
    have e1 := dRet_eq e1
    subst e1
    exact q_ret (snd_E e X sc sc W _ ok tk h)
  | .rais c, X, W, B, P, Z, A, x, ok, tk, kf, po, ex, h => cq_rai ok tk (fun c hc => ex.ex X.pn X.xe c hc) h
  | .xpr e, X, W, B, P, Z, A, x, ok, tk, kf, po, ex, h => by
    obtain ⟨⟨v, p⟩, e1, h⟩ := oTst_eq h
    have e1 := dXpr_eq e1
    subst e1
    obtain ⟨h1, h4⟩ := and3 h
    exact q_xpr (swp_of h1 _ _ _) (snd_E e X sc sc W _ ok tk h4)
  | .tryF b i j Ls, X, W, B, P, Z, A, x, ok, tk, kf, po, ex, h => cq_tryF ok tk ex (fun body hb W' pn xe tk' po' => snd_Cs b (X.tr pn xe) W' B P Z A body (ok.tr pn xe) tk' kf po' (ex.tr pn xe) hb) h
theorem snd_Cs : ∀ (e : Cs) (X : Cx) (W : WX) (B : Fr0) (P : Addr → HO → Prop) (Z : Addr → Prop) (A : List Addr) (x : List Stmt), XOk X O k sc sc → Takes X W → X.env.scope.kind = .function → PassesOwn (model X.prog X.w) X.A X.env X.xe → StX X k →
    chkCs k sc e x = true → PSs X x (tSs (fm X O lo W) B P Z A fu e)
  | .nil, X, W, B, P, Z, A, x, ok, tk, kf, po, ex, h => by
    cases x with
    | nil => exact q_nil
    | cons _ _ => simp [chkCs] at h
  | .cons a b, X, W, B, P, Z, A, x, ok, tk, kf, po, ex, h => by
    cases x with
    | nil => simp [chkCs] at h
    | cons s ss =>
      simp only [chkCs] at h
      obtain ⟨h1, h2⟩ := and3 h
      exact q_cons (snd_C a X W B P Z A _ ok tk kf po ex h1) (snd_Cs b X W B P Z A _ ok tk kf po ex h2)
end
end
end Rf
namespace Rf
open PySem PySem.Spec PyProof.Rows L2
/-- a def of the program as it is held: its name, its text, its reading, what it may name -/
structure En where
  f : String
  st : Stmt
  d : Df
  k : Ck
  ps : List Str
def parOk (sc : Scope) (x : Str) : Bool := match sc.names.lookup x with
  | some .local => true
  | some .cell => true
  | _ => false
def isFree (q : NameKind) : Bool := match q with
  | .free => true
  | _ => false
def dfB (e : En) : Bool :=
  ((defScope e.st).kind == .function) && !(defScope e.st).isCoroutine && !(defScope e.st).isGenerator && decide (e.k.N.Nodup) && decide (e.k.N.take e.ps.length = e.ps) && e.ps.all (parOk (defScope e.st)) && (defScope e.st).names.all (fun p => !isFree p.2) &&
    decide (e.ps.length = e.d.np) && decide (e.k.N.length = e.d.nl) && chkCs e.k (defScope e.st) e.d.body (defBody e.st)
theorem sc_of {e : En} (h : dfB e = true) : FnScope e.k.N e.ps (defScope e.st) ∧ e.ps.length = e.d.np ∧ e.k.N.length = e.d.nl ∧ chkCs e.k (defScope e.st) e.d.body (defBody e.st) = true := by
  unfold dfB at h
  obtain ⟨h, g10⟩ := and3 h
  obtain ⟨h, g9⟩ := and3 h
  obtain ⟨h, g8⟩ := and3 h
  obtain ⟨h, g7⟩ := and3 h
  obtain ⟨h, g6⟩ := and3 h
  obtain ⟨h, g5⟩ := and3 h
  obtain ⟨h, g4⟩ := and3 h
  obtain ⟨h, g3⟩ := and3 h
  obtain ⟨g1, g2⟩ := and3 h
  refine ⟨⟨?_, ?_, ?_, of_decide_eq_true g4, of_decide_eq_true g5, fun x hx => ?_, fun y hy => ?_⟩, of_decide_eq_true g8, of_decide_eq_true g9, g10⟩
  · revert g1
    cases (defScope e.st).kind <;> intro g1 <;> first | rfl | cases g1
  · rw [Bool.not_eq_true'] at g2; exact g2
  · rw [Bool.not_eq_true'] at g3; exact g3
  · have := List.all_eq_true.mp g6 x hx
    unfold parOk at this
    split at this
    · exact .inl (by assumption)
    · exact .inr (by assumption)
    · cases this
  · have := List.all_eq_true.mp g7 y hy
    intro e2
    rw [e2] at this
    cases this
/-- what a def with oracle run promises -/
def spR (ω : World) (run : List Wd → Sto → Cr) (K : Frag) (mg : Str → Option Value) : Sp := fun vs H Q E => ∃ ρ S Y ws, Cf ω K H ρ S Y ∧ Rws K H ρ (mu ρ S Y) vs ws ∧
  match run ws S with
  | .no => False
  | .ex c => ∀ H' C, Same H H' → mg (Str.ofString c) = some (.ref C) → E (.ref C) none H'
  | .d x => ∀ v H', Same H H' → Rp K H' (mu ρ S Y) v x → Q v H'
  | .fresh xs => ∀ p vs' H', Same H H' → H p = none → H' p = some (.lst vs') → RpA K H' (mu ρ S (p :: Y)) vs' xs → Q (.ref p) H'
theorem spD_eq {ω : World} {O : Orc} {K : Frag} {mg : Str → Option Value} {f : String} : spD ω O K mg f = spR ω (O f) K mg := rfl
theorem LR.weak {K : Frag} {H : Hp} {M M' : Pr} {a : Addr} {xs : List V} (h : LR K H M a xs) (hm : ∀ b, M' b → M b) : LR K H M' a xs := h.elim (fun z => .inl ⟨z.1, fun q => z.2 (hm _ q)⟩) .inr
theorem Rws.at_ {K : Frag} {H : Hp} {ρ : List Addr} {M : Pr} : ∀ {vs : List V} {ws : List Wd} {i : Nat} {w : Wd}, Rws K H ρ M vs ws → ws[i]? = some w → ∃ v, vs[i]? = some v ∧ Rw K H ρ M v w
  | _, _, _, _, .nil, e => by simp at e
  | _, _, 0, _, .cons a b, e => by simp at e; subst e; exact ⟨_, rfl, a⟩
  | _, _, i + 1, _, .cons a b, e => by
    obtain ⟨v, h1, h2⟩ := Rws.at_ (i := i) b (by simpa using e)
    exact ⟨v, by simpa using h1, h2⟩
section
variable {P : Program} {w : World} {K : Frag} {mg : Str → Option Value} {base : Heap}
/-- what is known of a name that is called -/
def Kn (P : Program) (w : World) (K : Frag) (mg : Str → Option Value) (base : Heap) (kk : Nat) (O : Orc) (f : String) : Prop := ∃ (a : Addr) (fd : FuncData) (ps : List Str),
  FnOk P w K mg base (L2.CX P w) kk a fd ps (spD w O K mg f) ∧ mg (Str.ofString f) = some (.ref a) ∧ PySem.W.keepIn K (.ref a) = true ∧ Binds K fd ps []
/-- what is known of an exception's name -/
def XnOk (K : Frag) (mg : Str → Option Value) (c : String) : Prop := ∃ C, mg (Str.ofString c) = some (.ref C) ∧ PySem.W.excIn K C PySem.HandSPX.veTail "ValueError.__new__" = true ∧ PySem.W.keepIn K (.ref C) = true ∧
  PySem.W.subIn K (.ref C) (.type "BaseException") = some true ∧ PySem.W.typeIn K (.ref C) = some (.type "type")
def CnOk (K : Frag) (mg : Str → Option Value) (p : String × PyData) : Prop := ∃ u v, mg (Str.ofString p.1) = some u ∧ RelV v u ∧ ∀ H M, Rp K H M v p.2
def BnOk (mg : Str → Option Value) : Prop := ∀ b ∈ bNames, mg (Str.ofString b) = none
theorem mu_sub {F : Fm} {B : Fr0} {P : Addr → HO → Prop} {Z : Addr → Prop} {σ : L2.St} {H : Hp} {env : Env} {ρ ρ0 : List Addr} {S : Sto} (h : Sv F B P Z ρ0 σ H env ρ S) (hl : ρ0.length = B.S.length) : ∀ a, mu ρ0 B.S B.Y a → mu ρ S B.Y a := by
  rintro a (h1 | ⟨n, o, h1, h2, h3⟩)
  · exact .inl h1
  · have hn : n < F.lo := by
      rw [h.lo, ← hl]
      rcases Nat.lt_or_ge n ρ0.length with q | q
      · exact q
      · rw [List.getElem?_eq_none q] at h1; cases h1
    exact .inr ⟨n, o, h.beg n a h1, by rw [h.pre n hn]; exact h2, h3⟩
theorem fn_en {x qual : Str} {e : En} {f : Addr} {fd : FuncData} {O : Orc} {fu kk : Nat} (F : L2.Fun K x qual e.st f fd) (hd : dfB e = true) (hf : ∀ g ∈ e.k.fs, Kn P w K mg base kk O g) (hc : ∀ p ∈ e.k.cs, CnOk K mg p) (hx : ∀ c ∈ e.k.xs, XnOk K mg c) (hh : e.k.hs.2 ≠ [] → HxOk K mg e.k.hs.1 e.k.hs.2) (hb : BnOk mg) :
    FnOk P w K mg base (L2.CX P w) (kk + 1) f fd e.ps (spR w (runD O fu e.d) K mg) := by
  obtain ⟨sc, hp, hn, hk⟩ := sc_of hd
  refine F.okX sc (fun vs H Q E h => ?_) (fun cdv A outer s H vs Q E hr h => ?_)
  · obtain ⟨ρ, S, Y, ws, cf, rw, h⟩ := h
    by_cases q : ws.length = e.d.np
    · rw [rw.len, q, hp]
    · unfold runD at h
      rw [if_neg q] at h
      exact h.elim
  · obtain ⟨ρ, S, Y, ws, cf, rws, h⟩ := h
    by_cases q : ws.length = e.d.np
    · unfold runD at h
      rw [if_pos q] at h
      have ok : XOk (cxOf (L2.CX P w) P w K mg base e.k.N qual (defScope e.st) f cdv A outer s H E) O e.k (defScope e.st) (defScope e.st) := by
        refine ⟨rfl, rfl, rfl, sc.nd, ?_, fun g hg => ?_, hc, hb, fun y hy => ⟨loc_of hy, .inl rfl⟩⟩
        · have := hr.un
          show (A.deeper _).units + 65 < cLine
          omega
        · obtain ⟨a, fd', ps', h1, h2, h3, h4⟩ := hf g hg
          exact ⟨a, fd', kk, ps', h1, hr, h2, h3, h4⟩
      refine ⟨tSs (fm (cxOf (L2.CX P w) P w K mg base e.k.N qual (defScope e.st) f cdv A outer s H E) O S.length (fun cls d _ H => E cls d H)) ⟨H, S, Y⟩ (fun _ _ => False) (fun _ => False) ρ fu e.d.body,
        snd_Cs (k := e.k) (sc := defScope e.st) e.d.body _ _ _ _ _ _ _ ok (takes_of rfl rfl rfl rfl) sc.kind (passes_of rfl) ⟨fun pn xe c hc => ?_, rfl, rfl, hh⟩ hk, ?_⟩
      · obtain ⟨C, h1, h2, h3, h4, h5⟩ := hx c hc
        exact ⟨C, h1, h2, h3, raises_own h4 h5⟩
      · refine ⟨ws.map some ++ List.replicate (e.d.nl - e.d.np) none, ρ, S, ⟨⟨cf, ?_, fun i w' hw => ?_⟩, rfl, Same.refl _, fun n a h1 h2 => ?_, fun n hn => rfl, fun b o z => z.elim, fun b z => z.elim, fun n a z => z⟩, ?_⟩
        · show (L2.start e.k.N vs).length = _
          unfold L2.start
          rw [List.length_append, List.length_append, List.length_map, List.length_map, List.length_replicate, List.length_replicate, rws.len, hn, q]
        · have hi : i < ws.length := by
            rcases Nat.lt_or_ge i ws.length with z | z
            · exact z
            · rw [List.getElem?_append_right (by simpa using z), List.getElem?_replicate] at hw
              split at hw <;> cases hw
          rw [List.getElem?_append_left (by simpa using hi), List.getElem?_map] at hw
          cases hw2 : ws[i]? with
          | none => rw [hw2] at hw; cases hw
          | some w2 =>
            rw [hw2] at hw
            cases hw
            obtain ⟨v, h1, h2⟩ := rws.at_ hw2
            refine ⟨v, ?_, h2⟩
            show (L2.start e.k.N vs)[i]? = _
            unfold L2.start
            rw [List.getElem?_append_left (by rw [List.length_map, rws.len]; exact hi), List.getElem?_map, h1]
            rfl
        · have h1 : S.length ≤ n := h1
          rw [← cf.len] at h1
          rw [List.getElem?_eq_none h1] at h2; cases h2
        · show PoS _ _ _ _ _ _ (exCs O fu S.length e.d.body _ S)
          revert h
          generalize exCs O fu S.length e.d.body (ws.map some ++ List.replicate (e.d.nl - e.d.np) none) S = r
          intro h
          cases r with
          | no => exact h.elim
          | ex c env S' => exact fun σ H' ρ' C sv m => h H' C sv.same m
          | nx env S' => exact fun σ H' ρ' sv => h .non H' sv.same .non
          | bk env S' => exact h.elim
          | ct env S' => exact h.elim
          | rt w S' =>
            intro v σ H' ρ' env sv rw
            have sub := mu_sub sv cf.len
            cases w with
            | d x => exact h v H' sv.same (Rp.mono (fun a xs l => LR.weak l sub) (fun a xs l => l) _ _ rw)
            | r n =>
              obtain ⟨a, ha, rfl⟩ := rw
              by_cases hlo : S.length ≤ n
              · revert h
                show (match (if S.length ≤ n then (match S'[n]? with
                  | some (.lst xs) => Cr.fresh xs
                  | _ => .no) else .no) with
                  | .no => False
                  | .ex c => _
                  | .d x => _
                  | .fresh xs => _) → _
                rw [if_pos hlo]
                cases hS : S'[n]? with
                | none => exact fun h => h.elim
                | some o =>
                  cases o with
                  | lst xs =>
                    intro h
                    obtain ⟨vs', e1, e2⟩ := (sv.fs.cf.ent n a _ ha hS).lst _ rfl
                    refine h a vs' H' sv.same (sv.own n a hlo ha) e1 (RpA.mono (fun b xs l => LR.weak l ?_) (fun a xs l => l) _ _ e2)
                    rintro b (h1 | ⟨m, o, h1, h2, h3⟩)
                    · rcases List.mem_cons.mp h1 with rfl | h1
                      · exact .inr ⟨n, _, ha, hS, rfl⟩
                      · exact .inl h1
                    · exact sub b (.inr ⟨m, o, h1, h2, h3⟩)
                  | _ => exact fun h => h.elim
              · revert h
                show (match (if S.length ≤ n then (match S'[n]? with
                  | some (.lst xs) => Cr.fresh xs
                  | _ => .no) else .no) with
                  | .no => False
                  | .ex c => _
                  | .d x => _
                  | .fresh xs => _) → _
                rw [if_neg hlo]
                exact fun h => h.elim
    · unfold runD at h
      rw [if_neg q] at h
      exact h.elim
end
end Rf
namespace Rf
open PySem PySem.Spec PyProof.Rows L2
def tabl (L : List En) : List (String × Df) := L.map fun e => (e.f, e.d)
/-- each def names only those behind it -/
def closed : List En → Bool
  | [] => true
  | e :: r => e.k.fs.all (fun g => r.any fun e2 => e2.f == g) && closed r
section
variable {P : Program} {w : World} {K : Frag} {mg : Str → Option Value} {base : Heap}
/-- where a def of the table stands -/
def Fo (K : Frag) (mg : Str → Option Value) (e : En) : Prop := ∃ (f : Addr) (fd : FuncData) (x qual : Str), L2.Fun K x qual e.st f fd ∧ mg (Str.ofString e.f) = some (.ref f) ∧ Binds K fd e.ps []
structure EnOk (K : Frag) (mg : Str → Option Value) (e : En) : Prop where
  fo : Fo K mg e
  df : dfB e = true
  cs : ∀ p ∈ e.k.cs, CnOk K mg p
  xs : ∀ c ∈ e.k.xs, XnOk K mg c
  hs : e.k.hs.2 ≠ [] → HxOk K mg e.k.hs.1 e.k.hs.2
theorem Kn.more {kk kk' : Nat} {O O' : Orc} {g : String} (h : Kn P w K mg base kk O g) (hl : kk ≤ kk') (ho : O' g = O g) : Kn P w K mg base kk' O' g := by
  obtain ⟨a, fd, ps, h1, h2, h3, h4⟩ := h
  refine ⟨a, fd, ps, (h1.mono hl).imp fun vs H Q E q => ?_, h2, h3, h4⟩
  rw [spD_eq] at q ⊢
  rw [← ho]; exact q
theorem kn_head {e : En} {fu kk : Nat} {L : List (String × Df)} (h : EnOk K mg e) (hf : ∀ g ∈ e.k.fs, Kn P w K mg base kk (orc fu L) g) (hb : BnOk mg) : Kn P w K mg base (kk + 1) (orc fu ((e.f, e.d) :: L)) e.f := by
  obtain ⟨a, fd, x, qual, F, m, b⟩ := h.fo
  refine ⟨a, fd, e.ps, ?_, m, F.kp, b⟩
  have e1 : orc fu ((e.f, e.d) :: L) e.f = runD (orc fu L) fu e.d := by
    funext ws S
    show (if e.f = e.f then _ else _) = _
    rw [if_pos rfl]
  rw [spD_eq, e1]
  exact fn_en F h.df hf h.cs h.xs h.hs hb
theorem kn_all {fu : Nat} (hb : BnOk mg) : ∀ (L : List En), closed L = true → (∀ e ∈ L, EnOk K mg e) → ∀ g, (L.any fun e => e.f == g) = true → Kn P w K mg base L.length (orc fu (tabl L)) g
  | [], _, _, g, h => by cases h
  | e :: r, hc, he, g, h => by
    have hc : (e.k.fs.all (fun g => r.any fun e2 => e2.f == g) && closed r) = true := hc
    obtain ⟨c1, c2⟩ := and3 hc
    have ih := fun g => kn_all (fu := fu) hb r c2 (fun e' h' => he e' (List.mem_cons_of_mem _ h')) g
    have hd := kn_head (fu := fu) (he e (List.mem_cons_self ..)) (fun g hg => ih g (List.all_eq_true.mp c1 g hg)) hb
    by_cases q : g = e.f
    · rw [q]; exact hd
    · have h : (e.f == g || r.any fun e => e.f == g) = true := h
      have h0 : (e.f == g) = false := by
        cases z : e.f == g
        · rfl
        · exact absurd (eq_of_beq z).symm q
      rw [h0] at h
      refine (ih g h).more (Nat.le_succ _) ?_
      funext ws S
      show (if g = e.f then _ else _) = _
      rw [if_neg q]; rfl
/-- the law's promise: a list of at most n numbers, then True -/
def spLaw (n : Nat) (K : Frag) : Sp := fun vs H Q _ => ∃ (a : Addr) (ns : List Int), vs = [.ref a] ∧ SqL K H a (ns.map V.int) ∧ ns.length ≤ n ∧ ∀ H', Same H H' → Q (.bl true) H'
theorem rpA_ints {H : Hp} {M : Pr} : ∀ ns : List Int, RpA K H M (ns.map V.int) (ns.map PyData.int)
  | [] => .nil
  | n :: r => .cons (.int n) (rpA_ints r)
theorem law_en {e : En} {r : List En} {fu n : Nat} {f : Addr} {fd : FuncData} {x qual : Str} (F : L2.Fun K x qual e.st f fd) (hd : dfB e = true) (hcs : ∀ p ∈ e.k.cs, CnOk K mg p) (hxs : ∀ c ∈ e.k.xs, XnOk K mg c) (hhs : e.k.hs.2 ≠ [] → HxOk K mg e.k.hs.1 e.k.hs.2)
    (hb : BnOk mg) (hc : closed (e :: r) = true) (he : ∀ e ∈ r, EnOk K mg e)
    (hl : ∀ ns : List Int, ns.length ≤ n → orc fu (tabl (e :: r)) e.f [.d (.list (ns.map .int))] [] = .d (.bool true)) :
    FnOk P w K mg base (L2.CX P w) (r.length + 1) f fd e.ps (spLaw n K) := by
  have hc : (e.k.fs.all (fun g => r.any fun e2 => e2.f == g) && closed r) = true := hc
  obtain ⟨c1, c2⟩ := and3 hc
  have ih := fun g => kn_all (P := P) (w := w) (base := base) (fu := fu) hb r c2 he g
  have h1 := fn_en (fu := fu) F hd (fun g hg => ih g (List.all_eq_true.mp c1 g hg)) hcs hxs hhs hb
  refine h1.imp fun vs H Q E q => ?_
  obtain ⟨a, ns, rfl, hs, hm, hq⟩ := q
  have hl := hl ns hm
  refine ⟨[], [], [], [.d (.list (ns.map .int))], ⟨rfl, List.nodup_nil, fun a h => absurd h (List.not_mem_nil), fun a h => absurd h (List.not_mem_nil), fun n a o h => by simp at h⟩, .cons (.lst (xs := ns.map V.int) (ds := ns.map .int) ?_ (rpA_ints ns)) .nil, ?_⟩
  · refine hs.elim (fun z => .inl ⟨z, ?_⟩) .inr
    rintro (h | ⟨n, o, h, _⟩)
    · exact absurd h List.not_mem_nil
    · simp at h
  · have e1 : runD (orc fu (tabl r)) fu e.d [.d (.list (ns.map .int))] [] = .d (.bool true) := by
      rw [← hl]
      show _ = (if e.f = e.f then _ else _)
      rw [if_pos rfl]; rfl
    rw [e1]
    intro v H' sm rr
    cases rr
    exact hq H' sm
end
/-- the law row's walk -/
theorem walk_law {l : PySem.W.OpenLaw} {q : Program} {loose : List Str} {XP : (Str → Option Value) → Heap → Prop} {YP : World → Heap → Prop} {d : DefRec} {K : Params → PySem.W.Frag} {n k : Nat} {x : Str} (hn : l.most = some n) (hn2 : n ≤ sizeLine) (hr : Room k callerA) (hdf : d.params.defaults = [])
    (hY : ∀ (w : World) (h : Heap), YP w h → (K w.params).In h)
    (F : ∀ (w : World) (mg : Str → Option Value) (fa : Addr) (h : Heap), (K w.params).In h → h.Ns mainGlobals mg → mg d.name = some (.ref fa) →
      ∃ fd : FuncData, (∀ (s : Shared) (u : Value), BindsTo s fd ⟨[u], []⟩ [(x, u)]) ∧ ∀ base : Heap, (K w.params).In base → base.Ns mainGlobals mg → FnOk l.prog w (K w.params) mg base (L2.CX l.prog w) k fa fd [x] (spLaw n (K w.params))) :
    PySem.W.WalkO q loose XP YP l.row.toRowW d [] (fun f vs => PySem.call f vs) :=
  L2.walk_of (n := n) (k := k) (x := x) (CX := fun w => L2.CX l.prog w) (sp := fun w => spLaw n (K w.params)) hn hn2 hdf hr hY F (fun _ _ a ns hl _ hS => ⟨a, ns, rfl, hS, hl, fun _ _ => rfl⟩) fun _ _ _ _ _ z => by
    obtain ⟨_, _, _, _, _, _, _, _, _, _, _, _, z⟩ := z
    exact z
end Rf
namespace Rf
open PySem
def b__law_pick : Cs := (.cons (.set 3 (.ite (.cmp .ne (.var 0) (.lst .nil)) (.idx (.var 0) (.bin .mod (.bi .int (.cons (.var 1) .nil)) (.bi .len (.cons (.var 0) .nil)))) (.con (.int 0)))) (.cons (.par 4 5 (.bin .fdiv (.var 3) (.bin .pow (.con (.int 10)) (.con (.int 18)))) (.bin .fdiv (.var 1) (.bi .max (.cons (.bi .len (.cons (.var 0) .nil)) (.cons (.con (.int 1)) .nil))))) (.cons (.whl (.and (.cmp .gt (.var 4) (.con (.int 0))) (.cmp .gt (.var 5) (.con (.int 0)))) (.cons (.par 4 5 (.bin .fdiv (.var 4) (.con (.int 840))) (.bin .sub (.var 5) (.con (.int 1)))) .nil)) (.cons (.ife (.cmp .gt (.var 4) (.con (.int 0))) (.cons (.ret (.bin .mod (.bi .int (.cons (.bin .mod (.bi .int (.cons (.var 4) .nil)) (.con (.int 840))) .nil)) (.var 2))) .nil) .nil) (.cons (.set 6 (.bin .mod (.bi .int (.cons (.bin .mul (.bin .add (.bin .mul (.var 3) (.con (.int 31))) (.bin .mul (.con (.int 6151)) (.bin .add (.var 1) (.con (.int 1))))) (.con (.int 40692))) .nil)) (.con (.int 2147483399)))) (.cons (.ret (.bin .mod (.bi .int (.cons (.bin .mod (.bi .int (.cons (.bin .add (.bin .mul (.var 6) (.var 6)) (.bin .fdiv (.var 6) (.con (.int 31)))) .nil)) (.con (.int 2147483629))) .nil)) (.var 2))) .nil))))))
def d__law_pick : Df := ⟨3, 7, b__law_pick⟩
def b__law_term : Cs := (.cons (.set 4 (.idx (.tup (.cons (.con (.str (Str.ofString "a"))) (.cons (.con (.str (Str.ofString "b"))) (.cons (.con (.str (Str.ofString "ab"))) (.cons (.con (.str (Str.ofString "ab"))) .nil))))) (.call "_law_pick" (.cons (.var 0) (.cons (.var 1) (.cons (.con (.int 4)) .nil)))))) (.cons (.par 5 6 (.idx (.tup (.cons (.con (.str (Str.ofString "anew"))) (.cons (.con (.str (Str.ofString "rest"))) .nil))) (.call "_law_pick" (.cons (.var 0) (.cons (.bin .add (.var 1) (.con (.int 1))) (.cons (.con (.int 2)) .nil))))) (.bin .fdiv (.call "_law_pick" (.cons (.var 0) (.cons (.bin .add (.var 1) (.con (.int 2))) (.cons (.con (.int 3)) .nil)))) (.con (.int 2)))) (.cons (.ret (.tup (.cons (.var 2) (.cons (.bin .add (.con (.int 1)) (.call "_law_pick" (.cons (.var 0) (.cons (.bin .add (.var 1) (.con (.int 3))) (.cons (.var 3) .nil))))) (.cons (.var 4) (.cons (.var 5) (.cons (.var 6) (.cons (.cmp .eq (.call "_law_pick" (.cons (.var 0) (.cons (.bin .add (.var 1) (.con (.int 4))) (.cons (.con (.int 2)) .nil)))) (.con (.int 0))) .nil)))))))) .nil)))
def d__law_term : Df := ⟨4, 7, b__law_term⟩
def b__law_part : Cs := (.cons (.par 3 4 (.call "_law_pick" (.cons (.var 0) (.cons (.var 1) (.cons (.con (.int 3)) .nil)))) (.call "_law_pick" (.cons (.var 0) (.cons (.bin .add (.var 1) (.con (.int 1))) (.cons (.con (.int 3)) .nil))))) (.cons (.set 5 (.ite (.cmp .gt (.call "_law_pick" (.cons (.var 0) (.cons (.bin .add (.var 1) (.con (.int 2))) (.cons (.con (.int 4)) .nil)))) (.con (.int 0))) (.tup (.cons (.tup (.cons (.con (.str (Str.ofString "a"))) (.cons (.var 3) .nil))) (.cons (.tup (.cons (.con (.str (Str.ofString "b"))) (.cons (.var 4) .nil))) .nil))) (.tup (.cons (.tup (.cons (.con (.str (Str.ofString "a"))) (.cons (.var 3) .nil))) .nil)))) (.cons (.set 6 (.bi .min (.cons (.comp [7] (.v 7) (.of (.var 5)) none (.idx (.var 7) (.con (.int 1)))) .nil))) (.cons (.set 8 (.idx (.tup (.cons (.con (.int 0)) (.cons (.con (.int 1)) (.cons (.con (.int 2)) (.cons (.con (.int 3)) (.cons (.con (.int 3)) .nil)))))) (.call "_law_pick" (.cons (.var 0) (.cons (.bin .add (.var 1) (.con (.int 3))) (.cons (.con (.int 5)) .nil)))))) (.cons (.set 8 (.ite (.chn .lt .lt (.con (.int 0)) (.var 8) (.var 6)) (.con (.int 3)) (.var 8))) (.cons (.set 9 (.comp [10] (.v 10) (.range1 (.cons (.var 2) .nil)) none (.call "_law_term" (.cons (.var 0) (.cons (.bin .add (.bin .add (.var 1) (.con (.int 5))) (.bin .mul (.con (.int 6)) (.var 10))) (.cons (.idx (.tup (.cons (.con (.str (Str.ofString "maker"))) (.cons (.con (.str (Str.ofString "seller"))) .nil))) (.var 10)) (.cons (.ite (.cmp .gt (.var 2) (.con (.int 1))) (.con (.int 3)) (.con (.int 5))) .nil))))))) (.cons (.ret (.tup (.cons (.bin .add (.con (.int 1)) (.call "_law_pick" (.cons (.var 0) (.cons (.bin .add (.var 1) (.con (.int 4))) (.cons (.con (.int 9)) .nil))))) (.cons (.var 5) (.cons (.var 8) (.cons (.bi .tuple (.cons (.var 9) .nil)) .nil)))))) .nil)))))))
def d__law_part : Df := ⟨3, 11, b__law_part⟩
def b_is_tuple : Cs := (.cons (.ret (.and (.isi (.var 0) .tuple) (.chn .le .le (.var 1) (.bi .len (.cons (.var 0) .nil)) (.var 2)))) .nil)
def d_is_tuple : Df := ⟨3, 3, b_is_tuple⟩
def g_LONGEST_WORD : PyData := (.int 6)
def g_LETTERS : PyData := (.str (Str.ofString "abcdefghijklmnopqrstuvwxyz"))
def b_is_word : Cs := (.cons (.ife (.or (.not (.isi (.var 0) .str)) (.not (.chn .le .le (.con (.int 1)) (.bi .len (.cons (.var 0) .nil)) (.glo "LONGEST_WORD" g_LONGEST_WORD)))) (.cons (.ret (.con (.bool false))) .nil) .nil) (.cons (.ret (.bi .all (.cons (.comp [1] (.v 1) (.of (.var 0)) none (.cmp .isin (.var 1) (.glo "LETTERS" g_LETTERS))) .nil))) .nil))
def d_is_word : Df := ⟨1, 2, b_is_word⟩
def b_is_number : Cs := (.cons (.ife (.or (.isi (.var 0) .bool) (.not (.isi (.var 0) .int))) (.cons (.ret (.con (.bool false))) .nil) .nil) (.cons (.ret (.chn .le .le (.var 1) (.var 0) (.var 2))) .nil))
def d_is_number : Df := ⟨3, 3, b_is_number⟩
def g_KINDS : PyData := (.tuple [(.str (Str.ofString "a")), (.str (Str.ofString "b")), (.str (Str.ofString "c"))])
def b_is_kinds : Cs := (.cons (.ife (.not (.isi (.var 0) .str)) (.cons (.ret (.con (.bool false))) .nil) .nil) (.cons (.ret (.cmp .eq (.var 0) (.join (.con (.str (Str.ofString ""))) (.comp [1] (.v 1) (.of (.glo "KINDS" g_KINDS)) (some (.cmp .isin (.var 1) (.var 0))) (.var 1))))) .nil))
def d_is_kinds : Df := ⟨1, 2, b_is_kinds⟩
def g_RENEWALS : PyData := (.tuple [(.str (Str.ofString "anew")), (.str (Str.ofString "rest"))])
def b_is_term : Cs := (.cons (.ife (.not (.call "is_tuple" (.cons (.var 0) (.cons (.con (.int 6)) (.cons (.con (.int 6)) .nil))))) (.cons (.ret (.con (.bool false))) .nil) .nil) (.cons (.unp [1, 2, 3, 4, 5, 6] (.var 0)) (.cons (.ret (.and (.call "is_word" (.cons (.var 1) .nil)) (.and (.call "is_number" (.cons (.var 2) (.cons (.con (.int 1)) (.cons (.con (.int 6)) .nil)))) (.and (.call "is_kinds" (.cons (.var 3) .nil)) (.and (.cmp .isin (.var 4) (.glo "RENEWALS" g_RENEWALS)) (.and (.call "is_number" (.cons (.var 5) (.cons (.con (.int 0)) (.cons (.con (.int 2)) .nil)))) (.isi (.var 6) .bool))))))) .nil)))
def d_is_term : Df := ⟨1, 7, b_is_term⟩
def b_is_terms : Cs := (.cons (.ife (.not (.call "is_tuple" (.cons (.var 0) (.cons (.con (.int 0)) (.cons (.con (.int 3)) .nil))))) (.cons (.ret (.con (.bool false))) .nil) .nil) (.cons (.ife (.not (.bi .all (.cons (.comp [1] (.v 1) (.of (.var 0)) none (.call "is_term" (.cons (.var 1) .nil))) .nil))) (.cons (.ret (.con (.bool false))) .nil) .nil) (.cons (.ret (.cmp .eq (.lset [1] (.v 1) (.of (.var 0)) (.idx (.var 1) (.con (.int 0)))) (.bi .len (.cons (.var 0) .nil)))) .nil)))
def d_is_terms : Df := ⟨1, 2, b_is_terms⟩
def b_is_kind : Cs := (.cons (.ret (.cmp .isin (.var 0) (.glo "KINDS" g_KINDS))) .nil)
def d_is_kind : Df := ⟨1, 1, b_is_kind⟩
def b_is_life : Cs := (.cons (.ife (.not (.call "is_tuple" (.cons (.var 0) (.cons (.con (.int 2)) (.cons (.con (.int 2)) .nil))))) (.cons (.ret (.con (.bool false))) .nil) .nil) (.cons (.unp [1, 2] (.var 0)) (.cons (.ret (.and (.call "is_kind" (.cons (.var 1) .nil)) (.call "is_number" (.cons (.var 2) (.cons (.con (.int 0)) (.cons (.con (.int 6)) .nil)))))) .nil)))
def d_is_life : Df := ⟨1, 3, b_is_life⟩
def b_is_lives : Cs := (.cons (.ife (.not (.call "is_tuple" (.cons (.var 0) (.cons (.con (.int 1)) (.cons (.con (.int 3)) .nil))))) (.cons (.ret (.con (.bool false))) .nil) .nil) (.cons (.ife (.not (.bi .all (.cons (.comp [1] (.v 1) (.of (.var 0)) none (.call "is_life" (.cons (.var 1) .nil))) .nil))) (.cons (.ret (.con (.bool false))) .nil) .nil) (.cons (.ret (.call "is_kinds" (.cons (.join (.con (.str (Str.ofString ""))) (.comp [2, 3] (.tup [2, 3]) (.of (.var 0)) none (.var 2))) .nil))) .nil)))
def d_is_lives : Df := ⟨1, 4, b_is_lives⟩
def b_is_most : Cs := (.cons (.set 2 (.bi .min (.cons (.comp [3, 4] (.tup [3, 4]) (.of (.var 1)) none (.var 4)) .nil))) (.cons (.ret (.or (.call "is_number" (.cons (.var 0) (.cons (.con (.int 0)) (.cons (.con (.int 0)) .nil)))) (.call "is_number" (.cons (.var 0) (.cons (.var 2) (.cons (.con (.int 8)) .nil)))))) .nil))
def d_is_most : Df := ⟨2, 5, b_is_most⟩
def b_is_part : Cs := (.cons (.ife (.not (.call "is_tuple" (.cons (.var 0) (.cons (.con (.int 4)) (.cons (.con (.int 4)) .nil))))) (.cons (.ret (.con (.bool false))) .nil) .nil) (.cons (.unp [1, 2, 3, 4] (.var 0)) (.cons (.ret (.and (.call "is_number" (.cons (.var 1) (.cons (.con (.int 1)) (.cons (.con (.int 20)) .nil)))) (.and (.call "is_lives" (.cons (.var 2) .nil)) (.and (.call "is_most" (.cons (.var 3) (.cons (.var 2) .nil))) (.call "is_terms" (.cons (.var 4) .nil)))))) .nil)))
def d_is_part : Df := ⟨1, 5, b_is_part⟩
def b_check_part : Cs := (.cons (.ife (.not (.call "is_part" (.cons (.var 0) .nil))) (.cons (.rais "InvalidPart") .nil) .nil) .nil)
def d_check_part : Df := ⟨1, 1, b_check_part⟩
def g_UNLIMITED : PyData := (.int (-1))
def b_fresh_row : Cs := (.cons (.unp [1, 2, 3, 4, 5, 6] (.var 0)) (.cons (.ife (.cmp .eq (.var 5) (.con (.int 0))) (.cons (.ret (.tup (.cons (.var 2) (.cons (.glo "UNLIMITED" g_UNLIMITED) .nil)))) .nil) .nil) (.cons (.ret (.tup (.cons (.var 2) (.cons (.var 5) .nil)))) .nil)))
def d_fresh_row : Df := ⟨1, 7, b_fresh_row⟩
def b_fresh_state : Cs := (.cons (.unp [1, 2, 3, 4] (.var 0)) (.cons (.ret (.tup (.cons (.con (.int 0)) (.cons (.bi .tuple (.cons (.comp [5] (.v 5) (.of (.var 4)) none (.call "fresh_row" (.cons (.var 5) .nil))) .nil)) .nil)))) .nil))
def d_fresh_state : Df := ⟨1, 6, b_fresh_state⟩
def b_new_state : Cs := (.cons (.xpr (.call "check_part" (.cons (.var 0) .nil))) (.cons (.ret (.call "fresh_state" (.cons (.var 0) .nil))) .nil))
def d_new_state : Df := ⟨1, 1, b_new_state⟩
def b__law_new : Cs := (.cons (.ret (.tup (.cons (.con (.int 0)) (.cons (.bi .tuple (.cons (.comp [1] (.v 1) (.of (.idx (.var 0) (.con (.int 3)))) none (.tup (.cons (.idx (.var 1) (.con (.int 1))) (.cons (.ite (.cmp .gt (.idx (.var 1) (.con (.int 4))) (.con (.int 0))) (.idx (.var 1) (.con (.int 4))) (.neg (.con (.int 1)))) .nil)))) .nil)) .nil)))) .nil)
def d__law_new : Df := ⟨1, 2, b__law_new⟩
def b__law_last : Cs := (.cons (.ret (.ite (.cmp .gt (.idx (.var 0) (.con (.int 2))) (.con (.int 0))) (.idx (.var 0) (.con (.int 2))) (.bi .max (.cons (.comp [1] (.v 1) (.of (.idx (.var 0) (.con (.int 1)))) none (.idx (.var 1) (.con (.int 1)))) .nil)))) .nil)
def d__law_last : Df := ⟨1, 2, b__law_last⟩
def b_is_row : Cs := (.cons (.ife (.not (.call "is_tuple" (.cons (.var 1) (.cons (.con (.int 2)) (.cons (.con (.int 2)) .nil))))) (.cons (.ret (.con (.bool false))) .nil) .nil) (.cons (.unp [2, 3, 4, 5, 6, 7] (.var 0)) (.cons (.unp [8, 9] (.var 1)) (.cons (.ife (.not (.call "is_number" (.cons (.var 8) (.cons (.con (.int 0)) (.cons (.var 3) .nil))))) (.cons (.ret (.con (.bool false))) .nil) .nil) (.cons (.ife (.cmp .eq (.var 6) (.con (.int 0))) (.cons (.ret (.call "is_number" (.cons (.var 9) (.cons (.glo "UNLIMITED" g_UNLIMITED) (.cons (.glo "UNLIMITED" g_UNLIMITED) .nil))))) .nil) .nil) (.cons (.ret (.call "is_number" (.cons (.var 9) (.cons (.con (.int 0)) (.cons (.var 6) .nil))))) .nil))))))
def d_is_row : Df := ⟨2, 10, b_is_row⟩
def b_is_rows : Cs := (.cons (.unp [2, 3, 4, 5] (.var 0)) (.cons (.ife (.not (.call "is_tuple" (.cons (.var 1) (.cons (.bi .len (.cons (.var 5) .nil)) (.cons (.bi .len (.cons (.var 5) .nil)) .nil))))) (.cons (.ret (.con (.bool false))) .nil) .nil) (.cons (.ret (.bi .all (.cons (.comp [6, 7] (.tup [6, 7]) (.zip (.cons (.var 5) (.cons (.var 1) .nil))) none (.call "is_row" (.cons (.var 6) (.cons (.var 7) .nil)))) .nil))) .nil)))
def d_is_rows : Df := ⟨2, 8, b_is_rows⟩
def b_greatest_age : Cs := (.cons (.unp [1, 2, 3, 4] (.var 0)) (.cons (.ife (.cmp .gt (.var 3) (.con (.int 0))) (.cons (.ret (.var 3)) .nil) .nil) (.cons (.ret (.bi .max (.cons (.comp [5, 6] (.tup [5, 6]) (.of (.var 2)) none (.var 6)) .nil))) .nil)))
def d_greatest_age : Df := ⟨1, 7, b_greatest_age⟩
def b_is_state : Cs := (.cons (.xpr (.call "check_part" (.cons (.var 0) .nil))) (.cons (.ife (.not (.call "is_tuple" (.cons (.var 1) (.cons (.con (.int 2)) (.cons (.con (.int 2)) .nil))))) (.cons (.ret (.con (.bool false))) .nil) .nil) (.cons (.unp [2, 3] (.var 1)) (.cons (.ret (.and (.call "is_number" (.cons (.var 2) (.cons (.con (.int 0)) (.cons (.call "greatest_age" (.cons (.var 0) .nil)) .nil)))) (.call "is_rows" (.cons (.var 0) (.cons (.var 3) .nil))))) .nil))))
def d_is_state : Df := ⟨2, 4, b_is_state⟩
def b__law_judged : Cs := (.cons (.set 1 (.call "_law_new" (.cons (.var 0) .nil))) (.cons (.set 2 (.idx (.var 1) (.con (.int 1)))) (.cons (.own 3 (.cons (.con .none) (.cons (.tup (.cons (.con (.int 0)) .nil)) (.cons (.lst (.cons (.con (.int 0)) (.cons (.var 2) .nil))) (.cons (.tup (.cons (.con (.int 0)) (.cons (.bi .list (.cons (.var 2) .nil)) .nil))) (.cons (.tup (.cons (.neg (.con (.int 1))) (.cons (.var 2) .nil))) (.cons (.tup (.cons (.bin .add (.call "_law_last" (.cons (.var 0) .nil)) (.con (.int 1))) (.cons (.var 2) .nil))) .nil))))))) (.cons (.ext 3 (.lst (.cons (.tup (.cons (.con (.bool false)) (.cons (.var 2) .nil))) (.cons (.tup (.cons (.con (.int 0)) (.cons (.bin .add (.var 2) (.tup (.cons (.tup (.cons (.con (.int 0)) (.cons (.con (.int 0)) .nil))) .nil))) .nil))) .nil)))) (.cons (.loop (.tup [4, 5]) (.enum (.cons (.idx (.var 0) (.con (.int 3))) .nil)) (.cons (.unp [6, 7] (.idx (.var 2) (.var 4))) (.cons (.own 8 (.cons (.tup (.cons (.bin .add (.var 6) (.con (.int 1))) (.cons (.var 7) .nil))) (.cons (.tup (.cons (.neg (.con (.int 1))) (.cons (.var 7) .nil))) (.cons (.tup (.cons (.var 6) (.cons (.bin .add (.var 7) (.con (.int 1))) .nil))) (.cons (.tup (.cons (.var 6) .nil)) (.cons (.lst (.cons (.var 6) (.cons (.var 7) .nil))) .nil)))))) (.cons (.ext 8 (.lst (.cons (.tup (.cons (.var 6) (.cons (.neg (.con (.int 2))) .nil))) (.cons (.tup (.cons (.con (.bool true)) (.cons (.var 7) .nil))) .nil)))) (.cons (.app 8 (.ite (.cmp .eq (.idx (.var 5) (.con (.int 4))) (.con (.int 0))) (.tup (.cons (.var 6) (.cons (.con (.int 0)) .nil))) (.tup (.cons (.var 6) (.cons (.neg (.con (.int 1))) .nil))))) (.cons (.ext 3 (.comp [9] (.v 9) (.of (.var 8)) none (.tup (.cons (.con (.int 0)) (.cons (.bin .add (.bin .add (.sli (.var 2) none (some (.var 4))) (.tup (.cons (.var 9) .nil))) (.sli (.var 2) (some (.bin .add (.var 4) (.con (.int 1)))) none)) .nil))))) .nil)))))) (.cons (.ret (.and (.bi .all (.cons (.comp [10] (.v 10) (.of (.var 3)) none (.cmp .is (.call "is_state" (.cons (.var 0) (.cons (.var 10) .nil))) (.con (.bool false)))) .nil)) (.cmp .is (.call "is_state" (.cons (.var 0) (.cons (.var 1) .nil))) (.con (.bool true))))) .nil))))))
def d__law_judged : Df := ⟨1, 11, b__law_judged⟩
def b__law_events : Cs := (.cons (.set 2 (.ite (.or (.cmp .eq (.idx (.var 0) (.con (.int 2))) (.con (.int 0))) (.cmp .lt (.idx (.var 1) (.con (.int 0))) (.idx (.var 0) (.con (.int 2))))) (.lst (.cons (.con (.str (Str.ofString ""))) .nil)) (.lst .nil))) (.cons (.ret (.bin .add (.var 2) (.comp [3, 4] (.tup [3, 4]) (.of (.idx (.var 0) (.con (.int 1)))) (some (.cmp .ge (.idx (.var 1) (.con (.int 0))) (.var 4))) (.var 3)))) .nil))
def d__law_events : Df := ⟨2, 5, b__law_events⟩
def b__law_able : Cs := (.cons (.own 3 .nil) (.cons (.loop (.tup [4, 5]) (.enum (.cons (.idx (.var 0) (.con (.int 3))) .nil)) (.cons (.unp [6, 7] (.idx (.idx (.var 1) (.con (.int 1))) (.var 4))) (.cons (.ext 3 (.ite (.and (.cmp .gt (.var 6) (.con (.int 0))) (.and (.cmp .ne (.var 7) (.con (.int 0))) (.cmp .isin (.var 2) (.idx (.var 5) (.con (.int 2)))))) (.lst (.cons (.var 4) .nil)) (.lst .nil))) .nil))) (.cons (.ret (.var 3)) .nil)))
def d__law_able : Df := ⟨3, 8, b__law_able⟩
def b__law_move : Cs := (.cons (.parG [4, 5] [.o .nil, .e (.ite (.cmp .eq (.var 2) (.con (.str (Str.ofString "")))) (.idx (.var 1) (.con (.int 0))) (.con (.int 0)))]) (.cons (.loop (.tup [6, 7]) (.enum (.cons (.idx (.var 0) (.con (.int 3))) .nil)) (.cons (.unp [8, 9] (.idx (.idx (.var 1) (.con (.int 1))) (.var 6))) (.cons (.ife (.and (.cmp .ne (.var 2) (.con (.str (Str.ofString "")))) (.cmp .eq (.var 3) (.var 6))) (.cons (.set 8 (.ite (.cmp .eq (.idx (.var 7) (.con (.int 3))) (.con (.str (Str.ofString "anew")))) (.idx (.var 7) (.con (.int 1))) (.var 8))) (.cons (.set 9 (.ite (.cmp .gt (.var 9) (.con (.int 0))) (.bin .sub (.var 9) (.con (.int 1))) (.var 9))) .nil)) .nil) (.cons (.ife (.and (.cmp .ne (.var 2) (.con (.str (Str.ofString "")))) (.and (.cmp .is (.var 3) (.con .none)) (.idx (.var 7) (.con (.int 5))))) (.cons (.par 8 9 (.idx (.var 7) (.con (.int 1))) (.ite (.cmp .gt (.idx (.var 7) (.con (.int 4))) (.con (.int 0))) (.idx (.var 7) (.con (.int 4))) (.neg (.con (.int 1))))) .nil) .nil) (.cons (.app 4 (.tup (.cons (.ite (.cmp .gt (.var 8) (.con (.int 0))) (.bin .sub (.var 8) (.con (.int 1))) (.con (.int 0))) (.cons (.var 9) .nil)))) .nil))))) (.cons (.ret (.tup (.cons (.bi .min (.cons (.bin .add (.var 5) (.con (.int 1))) (.cons (.call "_law_last" (.cons (.var 0) .nil)) .nil))) (.cons (.bi .tuple (.cons (.var 4) .nil)) .nil)))) .nil)))
def d__law_move : Df := ⟨4, 10, b__law_move⟩
def b__law_steps : Cs := (.cons (.own 2 .nil) (.cons (.loop (.v 3) (.of (.call "_law_events" (.cons (.var 0) (.cons (.var 1) .nil)))) (.cons (.set 4 (.ite (.cmp .ne (.var 3) (.con (.str (Str.ofString "")))) (.call "_law_able" (.cons (.var 0) (.cons (.var 1) (.cons (.var 3) .nil)))) (.lst .nil))) (.cons (.set 5 (.ite (.cmp .ne (.var 4) (.lst .nil)) (.idx (.var 4) (.con (.int 0))) (.con .none))) (.cons (.app 2 (.tup (.cons (.var 3) (.cons (.call "_law_move" (.cons (.var 0) (.cons (.var 1) (.cons (.var 3) (.cons (.var 5) .nil))))) (.cons (.ite (.and (.cmp .ne (.var 3) (.con (.str (Str.ofString "")))) (.cmp .is (.var 5) (.con .none))) (.idx (.var 0) (.con (.int 0))) (.con (.int 0))) .nil))))) .nil)))) (.cons (.ret (.var 2)) .nil)))
def d__law_steps : Df := ⟨2, 6, b__law_steps⟩
def b_check_state : Cs := (.cons (.ife (.not (.call "is_state" (.cons (.var 0) (.cons (.var 1) .nil)))) (.cons (.rais "InvalidState") .nil) .nil) .nil)
def d_check_state : Df := ⟨2, 2, b_check_state⟩
def b_possible_events : Cs := (.cons (.unp [2, 3, 4, 5] (.var 0)) (.cons (.unp [6, 7] (.var 1)) (.cons (.set 8 (.ite (.or (.cmp .eq (.var 4) (.con (.int 0))) (.cmp .lt (.var 6) (.var 4))) (.lst (.cons (.con (.str (Str.ofString ""))) .nil)) (.lst .nil))) (.cons (.ret (.bin .add (.var 8) (.comp [9, 10] (.tup [9, 10]) (.of (.var 3)) (some (.cmp .ge (.var 6) (.var 10))) (.var 9)))) .nil))))
def d_possible_events : Df := ⟨2, 11, b_possible_events⟩
def b_events : Cs := (.cons (.xpr (.call "check_state" (.cons (.var 0) (.cons (.var 1) .nil)))) (.cons (.ret (.call "possible_events" (.cons (.var 0) (.cons (.var 1) .nil)))) .nil))
def d_events : Df := ⟨2, 2, b_events⟩
def b_check_kind : Cs := (.cons (.ife (.not (.call "is_kind" (.cons (.var 0) .nil))) (.cons (.rais "InvalidKind") .nil) .nil) .nil)
def d_check_kind : Df := ⟨1, 1, b_check_kind⟩
def b_can_be_asked : Cs := (.cons (.unp [3, 4, 5, 6, 7, 8] (.var 0)) (.cons (.unp [9, 10] (.var 1)) (.cons (.ret (.and (.cmp .gt (.var 9) (.con (.int 0))) (.and (.cmp .ne (.var 10) (.con (.int 0))) (.cmp .isin (.var 2) (.var 5))))) .nil)))
def d_can_be_asked : Df := ⟨3, 11, b_can_be_asked⟩
def b_askable : Cs := (.cons (.unp [3, 4, 5, 6] (.var 0)) (.cons (.unp [7, 8] (.var 1)) (.cons (.ret (.comp [9, 10, 11] (.nest (.cons (.v 9) (.cons (.tup [10, 11]) .nil))) (.enumZ (.cons (.var 6) (.cons (.var 8) .nil))) (some (.call "can_be_asked" (.cons (.var 10) (.cons (.var 11) (.cons (.var 2) .nil))))) (.var 9))) .nil)))
def d_askable : Df := ⟨3, 12, b_askable⟩
def b_asked : Cs := (.cons (.xpr (.call "check_state" (.cons (.var 0) (.cons (.var 1) .nil)))) (.cons (.xpr (.call "check_kind" (.cons (.var 2) .nil))) (.cons (.ret (.call "askable" (.cons (.var 0) (.cons (.var 1) (.cons (.var 2) .nil))))) .nil)))
def d_asked : Df := ⟨3, 3, b_asked⟩
def b_number_by_order : Cs := (.cons (.set 3 (.call "askable" (.cons (.var 0) (.cons (.var 1) (.cons (.var 2) .nil))))) (.cons (.ret (.ite (.cmp .gt (.bi .len (.cons (.var 3) .nil)) (.con (.int 0))) (.idx (.var 3) (.con (.int 0))) (.con .none))) .nil))
def d_number_by_order : Df := ⟨3, 4, b_number_by_order⟩
def b_state_at_end_of_day : Cs := (.cons (.set 3 (.bi .min (.cons (.bin .add (.var 1) (.con (.int 1))) (.cons (.call "greatest_age" (.cons (.var 0) .nil)) .nil)))) (.cons (.ret (.tup (.cons (.var 3) (.cons (.bi .tuple (.cons (.comp [4, 5] (.tup [4, 5]) (.of (.var 2)) none (.tup (.cons (.bi .max (.cons (.con (.int 0)) (.cons (.bin .sub (.var 4) (.con (.int 1))) .nil))) (.cons (.var 5) .nil)))) .nil)) .nil)))) .nil))
def d_state_at_end_of_day : Df := ⟨3, 6, b_state_at_end_of_day⟩
def b_state_after_quiet : Cs := (.cons (.unp [2, 3] (.var 1)) (.cons (.ret (.call "state_at_end_of_day" (.cons (.var 0) (.cons (.var 2) (.cons (.var 3) .nil))))) .nil))
def d_state_after_quiet : Df := ⟨2, 4, b_state_after_quiet⟩
def b_rows_after_sale : Cs := (.cons (.unp [2, 3, 4, 5] (.var 0)) (.cons (.own 6 .nil) (.cons (.loop (.tup [7, 8]) (.zip (.cons (.var 5) (.cons (.var 1) .nil))) (.cons (.unp [9, 10, 11, 12, 13, 14] (.var 7)) (.cons (.app 6 (.ite (.var 14) (.call "fresh_row" (.cons (.var 7) .nil)) (.var 8))) .nil))) (.cons (.ret (.bi .tuple (.cons (.var 6) .nil))) .nil))))
def d_rows_after_sale : Df := ⟨2, 15, b_rows_after_sale⟩
def b_row_after_claim : Cs := (.cons (.unp [2, 3, 4, 5, 6, 7] (.var 0)) (.cons (.unp [8, 9] (.var 1)) (.cons (.ife (.cmp .eq (.var 5) (.con (.str (Str.ofString "anew")))) (.cons (.set 8 (.var 3)) .nil) .nil) (.cons (.ife (.cmp .ne (.var 9) (.glo "UNLIMITED" g_UNLIMITED)) (.cons (.aug 9 .sub (.con (.int 1))) .nil) .nil) (.cons (.ret (.tup (.cons (.var 8) (.cons (.var 9) .nil)))) .nil)))))
def d_row_after_claim : Df := ⟨2, 10, b_row_after_claim⟩
def b_rows_after_claim : Cs := (.cons (.unp [3, 4, 5, 6] (.var 0)) (.cons (.set 7 (.call "row_after_claim" (.cons (.idx (.var 6) (.var 2)) (.cons (.idx (.var 1) (.var 2)) .nil)))) (.cons (.ret (.bin .add (.bin .add (.sli (.var 1) none (some (.var 2))) (.tup (.cons (.var 7) .nil))) (.sli (.var 1) (some (.bin .add (.var 2) (.con (.int 1)))) none))) .nil)))
def d_rows_after_claim : Df := ⟨3, 8, b_rows_after_claim⟩
def b_state_after_fault : Cs := (.cons (.unp [3, 4] (.var 1)) (.cons (.ife (.cmp .is (.var 2) (.con .none)) (.cons (.ret (.call "state_at_end_of_day" (.cons (.var 0) (.cons (.con (.int 0)) (.cons (.call "rows_after_sale" (.cons (.var 0) (.cons (.var 4) .nil))) .nil))))) .nil) .nil) (.cons (.ret (.call "state_at_end_of_day" (.cons (.var 0) (.cons (.con (.int 0)) (.cons (.call "rows_after_claim" (.cons (.var 0) (.cons (.var 4) (.cons (.var 2) .nil)))) .nil))))) .nil)))
def d_state_after_fault : Df := ⟨3, 5, b_state_after_fault⟩
def b_state_after_day : Cs := (.cons (.ife (.cmp .eq (.var 2) (.con (.str (Str.ofString "")))) (.cons (.ret (.call "state_after_quiet" (.cons (.var 0) (.cons (.var 1) .nil)))) .nil) .nil) (.cons (.ret (.call "state_after_fault" (.cons (.var 0) (.cons (.var 1) (.cons (.var 3) .nil))))) .nil))
def d_state_after_day : Df := ⟨4, 4, b_state_after_day⟩
def b_state_by_order : Cs := (.cons (.set 3 (.ite (.cmp .eq (.var 2) (.con (.str (Str.ofString "")))) (.con .none) (.call "number_by_order" (.cons (.var 0) (.cons (.var 1) (.cons (.var 2) .nil)))))) (.cons (.ret (.call "state_after_day" (.cons (.var 0) (.cons (.var 1) (.cons (.var 2) (.cons (.var 3) .nil)))))) .nil))
def d_state_by_order : Df := ⟨3, 4, b_state_by_order⟩
def b_next_state : Cs := (.cons (.xpr (.call "check_state" (.cons (.var 0) (.cons (.var 1) .nil)))) (.cons (.ife (.cmp .nin (.var 2) (.call "possible_events" (.cons (.var 0) (.cons (.var 1) .nil)))) (.cons (.rais "InvalidEvent") .nil) .nil) (.cons (.ret (.call "state_by_order" (.cons (.var 0) (.cons (.var 1) (.cons (.var 2) .nil))))) .nil)))
def d_next_state : Df := ⟨3, 3, b_next_state⟩
def b_law : Cs := (.cons (.loop (.v 1) (.range1 (.cons (.con (.int 4)) .nil)) (.cons (.set 2 (.call "_law_part" (.cons (.var 0) (.cons (.bin .mul (.con (.int 60)) (.var 1)) (.cons (.call "_law_pick" (.cons (.var 0) (.cons (.bin .add (.bin .mul (.con (.int 60)) (.var 1)) (.con (.int 25))) (.cons (.con (.int 3)) .nil)))) .nil))))) (.cons (.ife (.or (.not (.call "_law_judged" (.cons (.var 2) .nil))) (.cmp .ne (.call "new_state" (.cons (.var 2) .nil)) (.call "_law_new" (.cons (.var 2) .nil)))) (.cons (.ret (.con (.bool false))) .nil) .nil) (.cons (.set 3 (.call "_law_new" (.cons (.var 2) .nil))) (.cons (.loop (.v 4) (.range1 (.cons (.con (.int 8)) .nil)) (.cons (.set 5 (.call "_law_steps" (.cons (.var 2) (.cons (.var 3) .nil)))) (.cons (.ife (.or (.cmp .isn (.call "is_state" (.cons (.var 2) (.cons (.var 3) .nil))) (.con (.bool true))) (.cmp .ne (.call "events" (.cons (.var 2) (.cons (.var 3) .nil))) (.comp [6] (.v 6) (.of (.var 5)) none (.idx (.var 6) (.con (.int 0)))))) (.cons (.ret (.con (.bool false))) .nil) .nil) (.cons (.loop (.v 7) (.of (.tup (.cons (.con (.str (Str.ofString "a"))) (.cons (.con (.str (Str.ofString "b"))) (.cons (.con (.str (Str.ofString "c"))) .nil))))) (.cons (.ife (.cmp .ne (.call "asked" (.cons (.var 2) (.cons (.var 3) (.cons (.var 7) .nil)))) (.call "_law_able" (.cons (.var 2) (.cons (.var 3) (.cons (.var 7) .nil))))) (.cons (.ret (.con (.bool false))) .nil) .nil) .nil)) (.cons (.loop (.tup [8, 9, 10]) (.of (.var 5)) (.cons (.ife (.cmp .ne (.call "next_state" (.cons (.var 2) (.cons (.var 3) (.cons (.var 8) .nil)))) (.var 9)) (.cons (.ret (.con (.bool false))) .nil) .nil) .nil)) (.cons (.set 3 (.idx (.idx (.var 5) (.call "_law_pick" (.cons (.var 0) (.cons (.bin .add (.bin .add (.bin .mul (.con (.int 60)) (.var 1)) (.con (.int 30))) (.var 4)) (.cons (.bi .len (.cons (.var 5) .nil)) .nil))))) (.con (.int 1)))) .nil)))))) .nil))))) (.cons (.set 11 (.tup (.cons (.con (.int 5)) (.cons (.tup (.cons (.tup (.cons (.con (.str (Str.ofString "a"))) (.cons (.con (.int 1)) .nil))) (.cons (.tup (.cons (.con (.str (Str.ofString "b"))) (.cons (.con (.int 0)) .nil))) .nil))) (.cons (.con (.int 3)) (.cons (.tup (.cons (.tup (.cons (.con (.str (Str.ofString "maker"))) (.cons (.con (.int 2)) (.cons (.con (.str (Str.ofString "ab"))) (.cons (.con (.str (Str.ofString "rest"))) (.cons (.con (.int 0)) (.cons (.con (.bool false)) .nil))))))) (.cons (.tup (.cons (.con (.str (Str.ofString "seller"))) (.cons (.con (.int 3)) (.cons (.con (.str (Str.ofString "a"))) (.cons (.con (.str (Str.ofString "anew"))) (.cons (.con (.int 1)) (.cons (.con (.bool true)) .nil))))))) .nil))) .nil)))))) (.cons (.ife (.cmp .ne (.call "next_state" (.cons (.var 11) (.cons (.tup (.cons (.con (.int 2)) (.cons (.tup (.cons (.tup (.cons (.con (.int 0)) (.cons (.neg (.con (.int 1))) .nil))) (.cons (.tup (.cons (.con (.int 1)) (.cons (.con (.int 1)) .nil))) .nil))) .nil))) (.cons (.con (.str (Str.ofString "a"))) .nil)))) (.tup (.cons (.con (.int 1)) (.cons (.tup (.cons (.tup (.cons (.con (.int 0)) (.cons (.neg (.con (.int 1))) .nil))) (.cons (.tup (.cons (.con (.int 2)) (.cons (.con (.int 0)) .nil))) .nil))) .nil)))) (.cons (.ret (.con (.bool false))) .nil) .nil) (.cons (.set 12 (.tup (.cons (.con (.int 3)) (.cons (.tup (.cons (.tup (.cons (.con (.int 0)) (.cons (.neg (.con (.int 1))) .nil))) (.cons (.tup (.cons (.con (.int 0)) (.cons (.con (.int 0)) .nil))) .nil))) .nil)))) (.cons (.ret (.and (.cmp .eq (.call "next_state" (.cons (.var 11) (.cons (.var 12) (.cons (.con (.str (Str.ofString "b"))) .nil)))) (.tup (.cons (.con (.int 1)) (.cons (.tup (.cons (.tup (.cons (.con (.int 0)) (.cons (.neg (.con (.int 1))) .nil))) (.cons (.tup (.cons (.con (.int 2)) (.cons (.con (.int 1)) .nil))) .nil))) .nil)))) (.cmp .eq (.call "events" (.cons (.var 11) (.cons (.var 12) .nil))) (.lst (.cons (.con (.str (Str.ofString "a"))) (.cons (.con (.str (Str.ofString "b"))) .nil)))))) .nil)))))
def d_law : Df := ⟨1, 13, b_law⟩
def b__law_course : Cs := (.cons (.parG [4, 5] [.e (.call "_law_new" (.cons (.var 2) .nil)), .o .nil]) (.cons (.loop (.v 6) (.range1 (.cons (.var 3) .nil)) (.cons (.set 7 (.call "_law_steps" (.cons (.var 2) (.cons (.var 4) .nil)))) (.cons (.unp [8, 4, 9] (.idx (.var 7) (.call "_law_pick" (.cons (.var 0) (.cons (.bin .add (.var 1) (.var 6)) (.cons (.bi .len (.cons (.var 7) .nil)) .nil)))))) (.cons (.app 5 (.var 8)) .nil)))) (.cons (.ret (.bi .tuple (.cons (.var 5) .nil))) .nil)))
def d__law_course : Df := ⟨4, 10, b__law_course⟩
def b_state_after_days : Cs := (.cons (.loop (.v 3) (.of (.var 2)) (.cons (.ife (.cmp .nin (.var 3) (.call "possible_events" (.cons (.var 0) (.cons (.var 1) .nil)))) (.cons (.ret (.con .none)) .nil) .nil) (.cons (.set 1 (.call "state_by_order" (.cons (.var 0) (.cons (.var 1) (.cons (.var 3) .nil))))) .nil))) (.cons (.ret (.var 1)) .nil))
def d_state_after_days : Df := ⟨3, 4, b_state_after_days⟩
def g_LONGEST_COURSE : PyData := (.int 60)
def b_is_course : Cs := (.cons (.xpr (.call "check_part" (.cons (.var 0) .nil))) (.cons (.ife (.not (.call "is_tuple" (.cons (.var 1) (.cons (.con (.int 0)) (.cons (.glo "LONGEST_COURSE" g_LONGEST_COURSE) .nil))))) (.cons (.ret (.con (.bool false))) .nil) .nil) (.cons (.ret (.cmp .isn (.call "state_after_days" (.cons (.var 0) (.cons (.call "fresh_state" (.cons (.var 0) .nil)) (.cons (.var 1) .nil)))) (.con .none))) .nil)))
def d_is_course : Df := ⟨2, 2, b_is_course⟩
def b_check_course : Cs := (.cons (.ife (.not (.call "is_course" (.cons (.var 0) (.cons (.var 1) .nil)))) (.cons (.rais "InvalidCourse") .nil) .nil) .nil)
def d_check_course : Df := ⟨2, 2, b_check_course⟩
def b_state_after : Cs := (.cons (.xpr (.call "check_course" (.cons (.var 0) (.cons (.var 1) .nil)))) (.cons (.ret (.call "state_after_days" (.cons (.var 0) (.cons (.call "fresh_state" (.cons (.var 0) .nil)) (.cons (.var 1) .nil))))) .nil))
def d_state_after : Df := ⟨2, 2, b_state_after⟩
def b_paid_by_order : Cs := (.cons (.unp [3, 4, 5, 6] (.var 0)) (.cons (.set 7 (.and (.cmp .ne (.var 2) (.con (.str (Str.ofString "")))) (.cmp .is (.call "number_by_order" (.cons (.var 0) (.cons (.var 1) (.cons (.var 2) .nil)))) (.con .none)))) (.cons (.ret (.ite (.var 7) (.var 3) (.con (.int 0)))) .nil)))
def d_paid_by_order : Df := ⟨3, 8, b_paid_by_order⟩
def b_paid_on_days : Cs := (.cons (.set 3 (.con (.int 0))) (.cons (.loop (.v 4) (.of (.var 2)) (.cons (.aug 3 .add (.call "paid_by_order" (.cons (.var 0) (.cons (.var 1) (.cons (.var 4) .nil))))) (.cons (.set 1 (.call "state_by_order" (.cons (.var 0) (.cons (.var 1) (.cons (.var 4) .nil))))) .nil))) (.cons (.ret (.var 3)) .nil)))
def d_paid_on_days : Df := ⟨3, 5, b_paid_on_days⟩
def b_cost : Cs := (.cons (.xpr (.call "check_course" (.cons (.var 0) (.cons (.var 1) .nil)))) (.cons (.ret (.call "paid_on_days" (.cons (.var 0) (.cons (.call "fresh_state" (.cons (.var 0) .nil)) (.cons (.var 1) .nil))))) .nil))
def d_cost : Df := ⟨2, 2, b_cost⟩
def b_payer_of : Cs := (.cons (.unp [2, 3, 4, 5] (.var 0)) (.cons (.ret (.ite (.cmp .is (.var 1) (.con .none)) (.con (.str (Str.ofString ""))) (.idx (.idx (.var 5) (.var 1)) (.con (.int 0))))) .nil))
def d_payer_of : Df := ⟨2, 6, b_payer_of⟩
def b_payer_by_order : Cs := (.cons (.ret (.ite (.cmp .eq (.var 2) (.con (.str (Str.ofString "")))) (.con (.str (Str.ofString ""))) (.call "payer_of" (.cons (.var 0) (.cons (.call "number_by_order" (.cons (.var 0) (.cons (.var 1) (.cons (.var 2) .nil)))) .nil))))) .nil)
def d_payer_by_order : Df := ⟨3, 3, b_payer_by_order⟩
def b_entries_by_order : Cs := (.cons (.own 2 .nil) (.cons (.set 3 (.call "fresh_state" (.cons (.var 0) .nil))) (.cons (.loop (.v 4) (.of (.var 1)) (.cons (.app 2 (.tup (.cons (.var 4) (.cons (.call "payer_by_order" (.cons (.var 0) (.cons (.var 3) (.cons (.var 4) .nil)))) .nil)))) (.cons (.set 3 (.call "state_by_order" (.cons (.var 0) (.cons (.var 3) (.cons (.var 4) .nil))))) .nil))) (.cons (.ret (.var 2)) .nil))))
def d_entries_by_order : Df := ⟨2, 5, b_entries_by_order⟩
def b_payments : Cs := (.cons (.xpr (.call "check_course" (.cons (.var 0) (.cons (.var 1) .nil)))) (.cons (.ret (.comp [2, 3, 4] (.nest (.cons (.v 2) (.cons (.tup [3, 4]) .nil))) (.enum (.cons (.call "entries_by_order" (.cons (.var 0) (.cons (.var 1) .nil))) .nil)) (some (.cmp .ne (.var 3) (.con (.str (Str.ofString ""))))) (.tup (.cons (.var 2) (.cons (.var 3) (.cons (.var 4) .nil)))))) .nil))
def d_payments : Df := ⟨2, 5, b_payments⟩
def b_law_k05 : Cs := (.cons (.loop (.v 1) (.range1 (.cons (.con (.int 5)) .nil)) (.cons (.set 2 (.call "_law_part" (.cons (.var 0) (.cons (.bin .mul (.con (.int 60)) (.var 1)) (.cons (.call "_law_pick" (.cons (.var 0) (.cons (.bin .add (.bin .mul (.con (.int 60)) (.var 1)) (.con (.int 25))) (.cons (.con (.int 3)) .nil)))) .nil))))) (.cons (.set 3 (.call "_law_course" (.cons (.var 0) (.cons (.bin .add (.bin .mul (.con (.int 60)) (.var 1)) (.con (.int 30))) (.cons (.var 2) (.cons (.call "_law_pick" (.cons (.var 0) (.cons (.bin .add (.bin .mul (.con (.int 60)) (.var 1)) (.con (.int 26))) (.cons (.con (.int 12)) .nil)))) .nil)))))) (.cons (.parG [4, 5, 6] [.e (.call "_law_new" (.cons (.var 2) .nil)), .o .nil, .e (.con (.int 0))]) (.cons (.loop (.tup [7, 8]) (.enum (.cons (.var 3) .nil)) (.cons (.set 9 (.ite (.cmp .ne (.var 8) (.con (.str (Str.ofString "")))) (.call "_law_able" (.cons (.var 2) (.cons (.var 4) (.cons (.var 8) .nil)))) (.lst .nil))) (.cons (.ife (.cmp .ne (.var 8) (.con (.str (Str.ofString "")))) (.cons (.app 5 (.tup (.cons (.var 7) (.cons (.var 8) (.cons (.ite (.cmp .ne (.var 9) (.lst .nil)) (.idx (.idx (.idx (.var 2) (.con (.int 3))) (.idx (.var 9) (.con (.int 0)))) (.con (.int 0))) (.con (.str (Str.ofString "")))) .nil))))) (.cons (.set 6 (.bin .add (.var 6) (.ite (.cmp .eq (.var 9) (.lst .nil)) (.idx (.var 2) (.con (.int 0))) (.con (.int 0))))) .nil)) .nil) (.cons (.set 4 (.call "_law_move" (.cons (.var 2) (.cons (.var 4) (.cons (.var 8) (.cons (.ite (.cmp .ne (.var 9) (.lst .nil)) (.idx (.var 9) (.con (.int 0))) (.con .none)) .nil)))))) .nil)))) (.cons (.ife (.or (.cmp .isn (.call "is_course" (.cons (.var 2) (.cons (.var 3) .nil))) (.con (.bool true))) (.cmp .ne (.call "state_after" (.cons (.var 2) (.cons (.var 3) .nil))) (.var 4))) (.cons (.ret (.con (.bool false))) .nil) .nil) (.cons (.ife (.or (.cmp .ne (.call "payments" (.cons (.var 2) (.cons (.var 3) .nil))) (.var 5)) (.or (.cmp .ne (.call "cost" (.cons (.var 2) (.cons (.var 3) .nil))) (.var 6)) (.cmp .ne (.call "cost" (.cons (.var 2) (.cons (.tup .nil) .nil))) (.con (.int 0))))) (.cons (.ret (.con (.bool false))) .nil) .nil) (.cons (.loop (.v 8) (.of (.tup (.cons (.con (.str (Str.ofString ""))) (.cons (.con (.str (Str.ofString "a"))) (.cons (.con (.str (Str.ofString "b"))) (.cons (.con (.str (Str.ofString "c"))) .nil)))))) (.cons (.ife (.cmp .ne (.call "is_course" (.cons (.var 2) (.cons (.bin .add (.var 3) (.tup (.cons (.var 8) .nil))) .nil))) (.cmp .isin (.var 8) (.call "_law_events" (.cons (.var 2) (.cons (.var 4) .nil))))) (.cons (.ret (.con (.bool false))) .nil) .nil) .nil)) (.cons (.loop (.v 10) (.of (.tup (.cons (.con .none) (.cons (.bi .list (.cons (.var 3) .nil)) (.cons (.bin .add (.var 3) (.tup (.cons (.con .none) .nil))) (.cons (.bin .add (.var 3) (.tup (.cons (.con (.str (Str.ofString "ab"))) .nil))) (.cons (.bin .add (.var 3) (.tup (.cons (.con (.int 0)) .nil))) (.cons (.con (.str (Str.ofString "a"))) (.cons (.bin .add (.var 3) (.tup (.cons (.tup (.cons (.con (.str (Str.ofString "a"))) .nil)) .nil))) .nil))))))))) (.cons (.ife (.cmp .isn (.call "is_course" (.cons (.var 2) (.cons (.var 10) .nil))) (.con (.bool false))) (.cons (.ret (.con (.bool false))) .nil) .nil) .nil)) .nil))))))))) (.cons (.set 11 (.tup (.cons (.con (.int 5)) (.cons (.tup (.cons (.tup (.cons (.con (.str (Str.ofString "a"))) (.cons (.con (.int 1)) .nil))) .nil)) (.cons (.con (.int 0)) (.cons (.tup .nil) .nil)))))) (.cons (.ife (.or (.cmp .isn (.call "is_course" (.cons (.var 11) (.cons (.bin .mul (.tup (.cons (.con (.str (Str.ofString ""))) .nil)) (.con (.int 60))) .nil))) (.con (.bool true))) (.cmp .isn (.call "is_course" (.cons (.var 11) (.cons (.bin .mul (.tup (.cons (.con (.str (Str.ofString ""))) .nil)) (.con (.int 61))) .nil))) (.con (.bool false)))) (.cons (.ret (.con (.bool false))) .nil) .nil) (.cons (.set 12 (.tup (.cons (.con (.int 5)) (.cons (.tup (.cons (.tup (.cons (.con (.str (Str.ofString "a"))) (.cons (.con (.int 1)) .nil))) (.cons (.tup (.cons (.con (.str (Str.ofString "b"))) (.cons (.con (.int 0)) .nil))) .nil))) (.cons (.con (.int 3)) (.cons (.tup (.cons (.tup (.cons (.con (.str (Str.ofString "maker"))) (.cons (.con (.int 2)) (.cons (.con (.str (Str.ofString "ab"))) (.cons (.con (.str (Str.ofString "rest"))) (.cons (.con (.int 0)) (.cons (.con (.bool false)) .nil))))))) (.cons (.tup (.cons (.con (.str (Str.ofString "seller"))) (.cons (.con (.int 3)) (.cons (.con (.str (Str.ofString "a"))) (.cons (.con (.str (Str.ofString "anew"))) (.cons (.con (.int 1)) (.cons (.con (.bool true)) .nil))))))) .nil))) .nil)))))) (.cons (.set 3 (.tup (.cons (.con (.str (Str.ofString ""))) (.cons (.con (.str (Str.ofString ""))) (.cons (.con (.str (Str.ofString "a"))) (.cons (.con (.str (Str.ofString "b"))) .nil)))))) (.cons (.ret (.and (.cmp .eq (.call "payments" (.cons (.var 12) (.cons (.var 3) .nil))) (.lst (.cons (.tup (.cons (.con (.int 2)) (.cons (.con (.str (Str.ofString "a"))) (.cons (.con (.str (Str.ofString "seller"))) .nil)))) (.cons (.tup (.cons (.con (.int 3)) (.cons (.con (.str (Str.ofString "b"))) (.cons (.con (.str (Str.ofString ""))) .nil)))) .nil)))) (.cmp .eq (.call "cost" (.cons (.var 12) (.cons (.var 3) .nil))) (.con (.int 5))))) .nil))))))
def d_law_k05 : Df := ⟨1, 13, b_law_k05⟩
def b__law_judged_k01 : Cs := (.cons (.set 0 (.tup (.cons (.con (.str (Str.ofString "maker"))) (.cons (.con (.int 2)) (.cons (.con (.str (Str.ofString "ab"))) (.cons (.con (.str (Str.ofString "rest"))) (.cons (.con (.int 0)) (.cons (.con (.bool false)) .nil)))))))) (.cons (.set 1 (.lst (.cons (.var 0) (.cons (.tup (.cons (.con (.str (Str.ofString "a"))) (.cons (.con (.int 6)) (.cons (.con (.str (Str.ofString ""))) (.cons (.con (.str (Str.ofString "anew"))) (.cons (.con (.int 2)) (.cons (.con (.bool true)) .nil))))))) (.cons (.tup (.cons (.con (.str (Str.ofString "insure"))) (.cons (.con (.int 1)) (.cons (.con (.str (Str.ofString "abc"))) (.cons (.con (.str (Str.ofString "rest"))) (.cons (.con (.int 1)) (.cons (.con (.bool false)) .nil))))))) .nil))))) (.cons (.own 2 (.cons (.con .none) (.cons (.bi .list (.cons (.var 0) .nil)) (.cons (.sli (.var 0) none (some (.con (.int 5)))) (.cons (.bin .add (.var 0) (.tup (.cons (.con (.int 1)) .nil))) (.cons (.bin .add (.tup (.cons (.con (.str (Str.ofString ""))) .nil)) (.sli (.var 0) (some (.con (.int 1))) none)) (.cons (.bin .add (.tup (.cons (.con (.str (Str.ofString "Maker"))) .nil)) (.sli (.var 0) (some (.con (.int 1))) none)) .nil))))))) (.cons (.app 2 (.bin .add (.tup (.cons (.con (.str (Str.ofString "makersx"))) .nil)) (.sli (.var 0) (some (.con (.int 1))) none))) (.cons (.ext 2 (.lst (.cons (.bin .add (.tup (.cons (.con (.str (Str.ofString "a"))) (.cons (.con (.int 0)) .nil))) (.sli (.var 0) (some (.con (.int 2))) none)) (.cons (.bin .add (.tup (.cons (.con (.str (Str.ofString "a"))) (.cons (.con (.int 7)) .nil))) (.sli (.var 0) (some (.con (.int 2))) none)) (.cons (.bin .add (.tup (.cons (.con (.str (Str.ofString "a"))) (.cons (.con (.bool true)) .nil))) (.sli (.var 0) (some (.con (.int 2))) none)) .nil))))) (.cons (.app 2 (.bin .add (.bin .add (.sli (.var 0) none (some (.con (.int 2)))) (.tup (.cons (.con (.str (Str.ofString "ba"))) .nil))) (.sli (.var 0) (some (.con (.int 3))) none))) (.cons (.ext 2 (.lst (.cons (.bin .add (.bin .add (.sli (.var 0) none (some (.con (.int 2)))) (.tup (.cons (.con (.str (Str.ofString "aa"))) .nil))) (.sli (.var 0) (some (.con (.int 3))) none)) (.cons (.bin .add (.bin .add (.sli (.var 0) none (some (.con (.int 2)))) (.tup (.cons (.con (.str (Str.ofString "d"))) .nil))) (.sli (.var 0) (some (.con (.int 3))) none)) .nil)))) (.cons (.app 2 (.bin .add (.bin .add (.sli (.var 0) none (some (.con (.int 3)))) (.tup (.cons (.con (.str (Str.ofString "new"))) .nil))) (.sli (.var 0) (some (.con (.int 4))) none))) (.cons (.ext 2 (.lst (.cons (.bin .add (.sli (.var 0) none (some (.con (.int 4)))) (.tup (.cons (.con (.int 3)) (.cons (.con (.bool false)) .nil)))) (.cons (.bin .add (.sli (.var 0) none (some (.con (.int 4)))) (.tup (.cons (.neg (.con (.int 1))) (.cons (.con (.bool false)) .nil)))) (.cons (.bin .add (.sli (.var 0) none (some (.con (.int 4)))) (.tup (.cons (.con (.bool true)) (.cons (.con (.bool false)) .nil)))) (.cons (.bin .add (.sli (.var 0) none (some (.con (.int 5)))) (.tup (.cons (.con (.int 1)) .nil))) .nil)))))) (.cons (.app 2 (.bin .add (.sli (.var 0) none (some (.con (.int 5)))) (.tup (.cons (.con .none) .nil)))) (.cons (.ext 2 (.lst (.cons (.bin .add (.sli (.var 0) none (some (.con (.int 3)))) (.tup (.cons (.con .none) (.cons (.con (.int 0)) (.cons (.con (.bool false)) .nil))))) (.cons (.bin .add (.bin .add (.sli (.var 0) none (some (.con (.int 2)))) (.tup (.cons (.tup (.cons (.con (.str (Str.ofString "a"))) .nil)) .nil))) (.sli (.var 0) (some (.con (.int 3))) none)) (.cons (.bin .add (.tup (.cons (.tup (.cons (.con (.str (Str.ofString "a"))) .nil)) .nil)) (.sli (.var 0) (some (.con (.int 1))) none)) .nil))))) (.cons (.ife (.or (.not (.bi .all (.cons (.comp [3] (.v 3) (.of (.var 1)) none (.cmp .is (.call "is_term" (.cons (.var 3) .nil)) (.con (.bool true)))) .nil))) (.not (.bi .all (.cons (.comp [3] (.v 3) (.of (.var 2)) none (.cmp .is (.call "is_term" (.cons (.var 3) .nil)) (.con (.bool false)))) .nil)))) (.cons (.ret (.con (.bool false))) .nil) .nil) (.cons (.set 4 (.tup (.cons (.tup (.cons (.con (.str (Str.ofString "a"))) (.cons (.con (.int 1)) .nil))) (.cons (.tup (.cons (.con (.str (Str.ofString "b"))) (.cons (.con (.int 0)) .nil))) .nil)))) (.cons (.own 5 (.cons (.tup (.cons (.con (.int 5)) (.cons (.var 4) (.cons (.con (.int 3)) (.cons (.tup (.cons (.var 0) .nil)) .nil))))) (.cons (.tup (.cons (.con (.int 1)) (.cons (.tup (.cons (.tup (.cons (.con (.str (Str.ofString "c"))) (.cons (.con (.int 6)) .nil))) .nil)) (.cons (.con (.int 0)) (.cons (.tup .nil) .nil))))) .nil))) (.cons (.app 5 (.tup (.cons (.con (.int 20)) (.cons (.tup (.cons (.tup (.cons (.con (.str (Str.ofString "a"))) (.cons (.con (.int 0)) .nil))) (.cons (.tup (.cons (.con (.str (Str.ofString "b"))) (.cons (.con (.int 0)) .nil))) (.cons (.tup (.cons (.con (.str (Str.ofString "c"))) (.cons (.con (.int 0)) .nil))) .nil)))) (.cons (.con (.int 8)) (.cons (.bi .tuple (.cons (.var 1) .nil)) .nil)))))) (.cons (.own 6 (.cons (.con .none) (.cons (.tup (.cons (.con (.int 5)) (.cons (.var 4) (.cons (.con (.int 3)) .nil)))) (.cons (.lst (.cons (.con (.int 5)) (.cons (.var 4) (.cons (.con (.int 3)) (.cons (.tup .nil) .nil))))) (.cons (.tup (.cons (.con (.int 0)) (.cons (.var 4) (.cons (.con (.int 3)) (.cons (.tup .nil) .nil))))) (.cons (.tup (.cons (.con (.int 21)) (.cons (.var 4) (.cons (.con (.int 3)) (.cons (.tup .nil) .nil))))) .nil)))))) (.cons (.ext 6 (.lst (.cons (.tup (.cons (.con (.bool true)) (.cons (.var 4) (.cons (.con (.int 3)) (.cons (.tup .nil) .nil))))) (.cons (.tup (.cons (.con (.int 5)) (.cons (.tup .nil) (.cons (.con (.int 3)) (.cons (.tup .nil) .nil))))) .nil)))) (.cons (.ext 6 (.lst (.cons (.tup (.cons (.con (.int 5)) (.cons (.rev (.var 4)) (.cons (.con (.int 3)) (.cons (.tup .nil) .nil))))) (.cons (.tup (.cons (.con (.int 5)) (.cons (.bi .list (.cons (.var 4) .nil)) (.cons (.con (.int 3)) (.cons (.tup .nil) .nil))))) (.cons (.tup (.cons (.con (.int 5)) (.cons (.tup (.cons (.tup (.cons (.con (.str (Str.ofString "a"))) (.cons (.con (.int 7)) .nil))) .nil)) (.cons (.con (.int 8)) (.cons (.tup .nil) .nil))))) .nil))))) (.cons (.app 6 (.tup (.cons (.con (.int 5)) (.cons (.tup (.cons (.tup (.cons (.con (.str (Str.ofString "d"))) (.cons (.con (.int 1)) .nil))) .nil)) (.cons (.con (.int 3)) (.cons (.tup .nil) .nil)))))) (.cons (.ext 6 (.lst (.cons (.tup (.cons (.con (.int 5)) (.cons (.tup (.cons (.tup (.cons (.con (.str (Str.ofString "a"))) (.cons (.con (.int 1)) .nil))) (.cons (.tup (.cons (.con (.str (Str.ofString "a"))) (.cons (.con (.int 2)) .nil))) .nil))) (.cons (.con (.int 3)) (.cons (.tup .nil) .nil))))) (.cons (.tup (.cons (.con (.int 5)) (.cons (.tup (.cons (.tup (.cons (.con (.str (Str.ofString "a"))) (.cons (.con (.int 4)) .nil))) .nil)) (.cons (.con (.int 3)) (.cons (.tup .nil) .nil))))) (.cons (.tup (.cons (.con (.int 5)) (.cons (.var 4) (.cons (.con (.int 9)) (.cons (.tup .nil) .nil))))) .nil))))) (.cons (.app 6 (.tup (.cons (.con (.int 5)) (.cons (.var 4) (.cons (.neg (.con (.int 1))) (.cons (.tup .nil) .nil)))))) (.cons (.ext 6 (.lst (.cons (.tup (.cons (.con (.int 5)) (.cons (.var 4) (.cons (.con (.int 3)) (.cons (.lst (.cons (.var 0) .nil)) .nil))))) (.cons (.tup (.cons (.con (.int 5)) (.cons (.var 4) (.cons (.con (.int 3)) (.cons (.tup (.cons (.var 0) (.cons (.var 0) .nil))) .nil))))) .nil)))) (.cons (.app 6 (.tup (.cons (.con (.int 5)) (.cons (.var 4) (.cons (.con (.int 3)) (.cons (.bin .add (.bi .tuple (.cons (.var 1) .nil)) (.tup (.cons (.bin .add (.tup (.cons (.con (.str (Str.ofString "x"))) .nil)) (.sli (.var 0) (some (.con (.int 1))) none)) .nil))) .nil)))))) (.cons (.ext 6 (.lst (.cons (.tup (.cons (.con (.int 5)) (.cons (.tup (.cons (.tup (.cons (.con (.str (Str.ofString "a"))) (.cons (.con (.int 1)) (.cons (.con (.int 1)) .nil)))) .nil)) (.cons (.con (.int 3)) (.cons (.tup .nil) .nil))))) (.cons (.tup (.cons (.con (.int 5)) (.cons (.tup (.cons (.lst (.cons (.con (.str (Str.ofString "a"))) (.cons (.con (.int 1)) .nil))) .nil)) (.cons (.con (.int 3)) (.cons (.tup .nil) .nil))))) (.cons (.tup (.cons (.con (.int 5)) (.cons (.tup (.cons (.tup (.cons (.con (.str (Str.ofString "a"))) (.cons (.con (.bool true)) .nil))) .nil)) (.cons (.con (.int 3)) (.cons (.tup .nil) .nil))))) .nil))))) (.cons (.app 6 (.tup (.cons (.con (.int 5)) (.cons (.var 4) (.cons (.con (.bool false)) (.cons (.tup .nil) .nil)))))) (.cons (.ext 6 (.lst (.cons (.tup (.cons (.con (.int 5)) (.cons (.tup (.cons (.tup (.cons (.con (.str (Str.ofString ""))) (.cons (.con (.int 1)) .nil))) .nil)) (.cons (.con (.int 3)) (.cons (.tup .nil) .nil))))) (.cons (.tup (.cons (.con (.int 5)) (.cons (.tup (.cons (.tup (.cons (.con (.str (Str.ofString "ab"))) (.cons (.con (.int 1)) .nil))) .nil)) (.cons (.con (.int 3)) (.cons (.tup .nil) .nil))))) (.cons (.tup (.cons (.con (.int 5)) (.cons (.var 4) (.cons (.con (.int 3)) (.cons (.tup (.cons (.con .none) .nil)) .nil))))) .nil))))) (.cons (.app 6 (.tup (.cons (.con (.int 5)) (.cons (.var 4) (.cons (.con (.int 3)) (.cons (.con .none) .nil)))))) (.cons (.ret (.and (.bi .all (.cons (.comp [3] (.v 3) (.of (.var 5)) none (.cmp .is (.call "is_part" (.cons (.var 3) .nil)) (.con (.bool true)))) .nil)) (.bi .all (.cons (.comp [3] (.v 3) (.of (.var 6)) none (.cmp .is (.call "is_part" (.cons (.var 3) .nil)) (.con (.bool false)))) .nil)))) .nil))))))))))))))))))))))))))))
def d__law_judged_k01 : Df := ⟨0, 7, b__law_judged_k01⟩
def b_payers : Cs := (.cons (.xpr (.call "check_part" (.cons (.var 0) .nil))) (.cons (.unp [1, 2, 3, 4] (.var 0)) (.cons (.ret (.comp [5] (.v 5) (.of (.var 4)) none (.idx (.var 5) (.con (.int 0))))) .nil)))
def d_payers : Df := ⟨1, 6, b_payers⟩
def b_with_terms : Cs := (.cons (.xpr (.call "check_part" (.cons (.var 0) .nil))) (.cons (.unp [2, 3, 4, 5] (.var 0)) (.cons (.set 6 (.tup (.cons (.var 2) (.cons (.var 3) (.cons (.var 4) (.cons (.var 1) .nil)))))) (.cons (.ife (.not (.call "is_part" (.cons (.var 6) .nil))) (.cons (.rais "InvalidTerms") .nil) .nil) (.cons (.ret (.var 6)) .nil)))))
def d_with_terms : Df := ⟨2, 7, b_with_terms⟩
def b_law_k01 : Cs := (.cons (.ife (.not (.call "_law_judged" .nil)) (.cons (.ret (.con (.bool false))) .nil) .nil) (.cons (.loop (.v 1) (.range1 (.cons (.con (.int 5)) .nil)) (.cons (.par 2 3 (.call "_law_part" (.cons (.var 0) (.cons (.bin .mul (.con (.int 30)) (.var 1)) (.cons (.call "_law_pick" (.cons (.var 0) (.cons (.bin .add (.bin .mul (.con (.int 30)) (.var 1)) (.con (.int 25))) (.cons (.con (.int 3)) .nil)))) .nil)))) (.call "_law_part" (.cons (.var 0) (.cons (.bin .add (.bin .mul (.con (.int 30)) (.var 1)) (.con (.int 200))) (.cons (.con (.int 2)) .nil))))) (.cons (.ife (.or (.cmp .isn (.call "is_part" (.cons (.var 2) .nil)) (.con (.bool true))) (.cmp .ne (.call "payers" (.cons (.var 2) .nil)) (.comp [4] (.v 4) (.of (.idx (.var 2) (.con (.int 3)))) none (.idx (.var 4) (.con (.int 0)))))) (.cons (.ret (.con (.bool false))) .nil) .nil) (.cons (.ife (.or (.cmp .ne (.call "with_terms" (.cons (.var 2) (.cons (.idx (.var 3) (.con (.int 3))) .nil))) (.bin .add (.sli (.var 2) none (some (.con (.int 3)))) (.tup (.cons (.idx (.var 3) (.con (.int 3))) .nil)))) (.cmp .ne (.call "with_terms" (.cons (.var 2) (.cons (.tup .nil) .nil))) (.bin .add (.sli (.var 2) none (some (.con (.int 3)))) (.tup (.cons (.tup .nil) .nil))))) (.cons (.ret (.con (.bool false))) .nil) .nil) .nil)))) (.cons (.set 5 (.tup (.cons (.con (.int 5)) (.cons (.tup (.cons (.tup (.cons (.con (.str (Str.ofString "a"))) (.cons (.con (.int 1)) .nil))) (.cons (.tup (.cons (.con (.str (Str.ofString "b"))) (.cons (.con (.int 0)) .nil))) .nil))) (.cons (.con (.int 3)) (.cons (.tup (.cons (.tup (.cons (.con (.str (Str.ofString "maker"))) (.cons (.con (.int 2)) (.cons (.con (.str (Str.ofString "ab"))) (.cons (.con (.str (Str.ofString "rest"))) (.cons (.con (.int 0)) (.cons (.con (.bool false)) .nil))))))) .nil)) .nil)))))) (.cons (.ret (.and (.cmp .eq (.call "payers" (.cons (.var 5) .nil)) (.lst (.cons (.con (.str (Str.ofString "maker"))) .nil))) (.cmp .eq (.call "payers" (.cons (.call "with_terms" (.cons (.var 5) (.cons (.tup .nil) .nil))) .nil)) (.lst .nil)))) .nil))))
def d_law_k01 : Df := ⟨1, 6, b_law_k01⟩
def b__law_drawn : Cs := (.cons (.set 3 (.bin .mul (.con (.int 7)) (.var 1))) (.cons (.ife (.cmp .ne (.var 0) (.lst .nil)) (.cons (.set 3 (.idx (.var 0) (.bin .mod (.bi .int (.cons (.var 1) .nil)) (.bi .len (.cons (.var 0) .nil))))) (.cons (.set 4 (.bin .fdiv (.var 1) (.bi .len (.cons (.var 0) .nil)))) (.cons (.ife (.and (.cmp .ge (.var 3) (.bin .pow (.con (.int 10)) (.con (.int 18)))) (.cmp .lt (.var 4) (.con (.int 60)))) (.cons (.set 5 (.bin .fdiv (.var 3) (.bin .pow (.con (.int 10)) (.con (.int 18))))) (.cons (.whl (.and (.cmp .gt (.var 5) (.con (.int 0))) (.cmp .gt (.var 4) (.con (.int 0)))) (.cons (.set 5 (.bin .fdiv (.var 5) (.con (.int 1000000)))) (.cons (.set 4 (.bin .sub (.var 4) (.con (.int 1)))) .nil))) (.cons (.ife (.cmp .gt (.var 5) (.con (.int 0))) (.cons (.ret (.bin .mod (.bi .int (.cons (.bin .mod (.bi .int (.cons (.var 5) .nil)) (.con (.int 1000000))) .nil)) (.var 2))) .nil) .nil) .nil))) .nil) (.cons (.set 3 (.bin .add (.var 3) (.bin .mul (.con (.int 6553)) (.bin .fdiv (.var 1) (.bi .len (.cons (.var 0) .nil)))))) .nil)))) .nil) (.cons (.set 3 (.bin .mod (.bi .int (.cons (.bin .add (.bin .mul (.bin .mod (.bi .int (.cons (.var 3) .nil)) (.con (.int 2147483563))) (.con (.int 69069))) (.bin .mul (.con (.int 104723)) (.bin .add (.var 1) (.con (.int 1))))) .nil)) (.con (.int 2147483563)))) (.cons (.set 3 (.bin .mod (.bi .int (.cons (.bin .add (.bin .mul (.var 3) (.var 3)) (.bin .fdiv (.var 3) (.con (.int 3)))) .nil)) (.con (.int 2147483399)))) (.cons (.ret (.bin .mod (.bi .int (.cons (.bin .fdiv (.bin .mod (.bi .int (.cons (.bin .add (.bin .mul (.var 3) (.var 3)) (.bin .fdiv (.var 3) (.con (.int 7)))) .nil)) (.con (.int 2147483647))) (.con (.int 11))) .nil)) (.var 2))) .nil)))))
def d__law_drawn : Df := ⟨3, 6, b__law_drawn⟩
def b__law_raw : Cs := (.cons (.set 3 (.lst (.cons (.tup (.cons (.tup (.cons (.con (.str (Str.ofString "a"))) (.cons (.con (.int 0)) .nil))) .nil)) (.cons (.tup (.cons (.tup (.cons (.con (.str (Str.ofString "a"))) (.cons (.con (.int 1)) .nil))) .nil)) (.cons (.tup (.cons (.tup (.cons (.con (.str (Str.ofString "a"))) (.cons (.con (.int 0)) .nil))) (.cons (.tup (.cons (.con (.str (Str.ofString "b"))) (.cons (.con (.int 1)) .nil))) .nil))) (.cons (.tup (.cons (.tup (.cons (.con (.str (Str.ofString "a"))) (.cons (.con (.int 2)) .nil))) (.cons (.tup (.cons (.con (.str (Str.ofString "b"))) (.cons (.con (.int 0)) .nil))) .nil))) (.cons (.tup (.cons (.tup (.cons (.con (.str (Str.ofString "b"))) (.cons (.con (.int 1)) .nil))) .nil)) .nil))))))) (.cons (.set 3 (.idx (.var 3) (.call "_law_drawn" (.cons (.var 0) (.cons (.var 1) (.cons (.con (.int 5)) .nil)))))) (.cons (.parG [4, 5] [.e (.idx (.lst (.cons (.con (.int 0)) (.cons (.con (.int 0)) (.cons (.con (.int 2)) (.cons (.con (.int 3)) .nil))))) (.call "_law_drawn" (.cons (.var 0) (.cons (.bin .add (.var 1) (.con (.int 1))) (.cons (.con (.int 4)) .nil))))), .o .nil]) (.cons (.loop (.v 6) (.range1 (.cons (.call "_law_drawn" (.cons (.var 0) (.cons (.bin .add (.var 1) (.con (.int 2))) (.cons (.bin .add (.var 2) (.con (.int 1))) .nil)))) .nil)) (.cons (.set 7 (.bin .add (.bin .add (.var 1) (.con (.int 4))) (.bin .mul (.con (.int 6)) (.var 6)))) (.cons (.par 8 9 (.bin .add (.con (.int 1)) (.call "_law_drawn" (.cons (.var 0) (.cons (.var 7) (.cons (.con (.int 4)) .nil))))) (.idx (.lst (.cons (.con (.str (Str.ofString "a"))) (.cons (.con (.str (Str.ofString "b"))) (.cons (.con (.str (Str.ofString "ab"))) (.cons (.con (.str (Str.ofString "ab"))) (.cons (.con (.str (Str.ofString ""))) .nil)))))) (.call "_law_drawn" (.cons (.var 0) (.cons (.bin .add (.var 7) (.con (.int 1))) (.cons (.con (.int 5)) .nil)))))) (.cons (.par 10 11 (.idx (.lst (.cons (.con (.str (Str.ofString "anew"))) (.cons (.con (.str (Str.ofString "rest"))) .nil))) (.call "_law_drawn" (.cons (.var 0) (.cons (.bin .add (.var 7) (.con (.int 2))) (.cons (.con (.int 2)) .nil))))) (.call "_law_drawn" (.cons (.var 0) (.cons (.bin .add (.var 7) (.con (.int 3))) (.cons (.con (.int 3)) .nil))))) (.cons (.par 12 13 (.idx (.lst (.cons (.con (.str (Str.ofString "maker"))) (.cons (.con (.str (Str.ofString "seller"))) (.cons (.con (.str (Str.ofString "third"))) .nil)))) (.var 6)) (.cmp .eq (.call "_law_drawn" (.cons (.var 0) (.cons (.bin .add (.var 7) (.con (.int 4))) (.cons (.con (.int 2)) .nil)))) (.con (.int 0)))) (.cons (.app 5 (.tup (.cons (.var 12) (.cons (.var 8) (.cons (.var 9) (.cons (.var 10) (.cons (.var 11) (.cons (.var 13) .nil)))))))) .nil)))))) (.cons (.ret (.tup (.cons (.bin .add (.con (.int 1)) (.call "_law_drawn" (.cons (.var 0) (.cons (.bin .add (.var 1) (.con (.int 3))) (.cons (.con (.int 4)) .nil))))) (.cons (.var 3) (.cons (.var 4) (.cons (.bi .tuple (.cons (.var 5) .nil)) .nil)))))) .nil)))))
def d__law_raw : Df := ⟨3, 14, b__law_raw⟩
def b__law_state : Cs := (.cons (.set 3 (.ite (.cmp .gt (.idx (.var 2) (.con (.int 2))) (.con (.int 0))) (.idx (.var 2) (.con (.int 2))) (.bi .max (.cons (.comp [4] (.v 4) (.of (.idx (.var 2) (.con (.int 1)))) none (.idx (.var 4) (.con (.int 1)))) .nil)))) (.cons (.own 5 .nil) (.cons (.loop (.tup [6, 7]) (.enum (.cons (.idx (.var 2) (.con (.int 3))) .nil)) (.cons (.set 8 (.ite (.cmp .gt (.idx (.var 7) (.con (.int 4))) (.con (.int 0))) (.call "_law_drawn" (.cons (.var 0) (.cons (.bin .add (.bin .add (.var 1) (.con (.int 2))) (.bin .mul (.con (.int 2)) (.var 6))) (.cons (.bin .add (.idx (.var 7) (.con (.int 4))) (.con (.int 1))) .nil)))) (.neg (.con (.int 1))))) (.cons (.app 5 (.tup (.cons (.call "_law_drawn" (.cons (.var 0) (.cons (.bin .add (.bin .add (.var 1) (.con (.int 1))) (.bin .mul (.con (.int 2)) (.var 6))) (.cons (.bin .add (.idx (.var 7) (.con (.int 1))) (.con (.int 1))) .nil)))) (.cons (.var 8) .nil)))) .nil))) (.cons (.ret (.tup (.cons (.call "_law_drawn" (.cons (.var 0) (.cons (.var 1) (.cons (.bin .add (.var 3) (.con (.int 1))) .nil)))) (.cons (.bi .tuple (.cons (.var 5) .nil)) .nil)))) .nil))))
def d__law_state : Df := ⟨3, 9, b__law_state⟩
def b__law_after : Cs := (.cons (.unp [4, 5] (.var 1)) (.cons (.set 6 (.ite (.cmp .gt (.idx (.var 0) (.con (.int 2))) (.con (.int 0))) (.idx (.var 0) (.con (.int 2))) (.bi .max (.cons (.comp [7, 8] (.tup [7, 8]) (.of (.idx (.var 0) (.con (.int 1)))) none (.var 8)) .nil)))) (.cons (.own 9 .nil) (.cons (.loop (.tup [10, 11]) (.enum (.cons (.idx (.var 0) (.con (.int 3))) .nil)) (.cons (.unp [12, 13] (.idx (.var 5) (.var 10))) (.cons (.ife (.and (.cmp .ne (.var 2) (.con (.str (Str.ofString "")))) (.cmp .eq (.var 3) (.var 10))) (.cons (.set 12 (.ite (.cmp .eq (.idx (.var 11) (.con (.int 3))) (.con (.str (Str.ofString "anew")))) (.idx (.var 11) (.con (.int 1))) (.var 12))) (.cons (.set 13 (.ite (.cmp .gt (.var 13) (.con (.int 0))) (.bin .sub (.var 13) (.con (.int 1))) (.var 13))) .nil)) .nil) (.cons (.ife (.and (.cmp .ne (.var 2) (.con (.str (Str.ofString "")))) (.and (.cmp .is (.var 3) (.con .none)) (.idx (.var 11) (.con (.int 5))))) (.cons (.par 12 13 (.idx (.var 11) (.con (.int 1))) (.ite (.cmp .gt (.idx (.var 11) (.con (.int 4))) (.con (.int 0))) (.idx (.var 11) (.con (.int 4))) (.neg (.con (.int 1))))) .nil) .nil) (.cons (.app 9 (.tup (.cons (.ite (.cmp .gt (.var 12) (.con (.int 0))) (.bin .sub (.var 12) (.con (.int 1))) (.con (.int 0))) (.cons (.var 13) .nil)))) .nil))))) (.cons (.ret (.tup (.cons (.bi .min (.cons (.bin .add (.ite (.cmp .eq (.var 2) (.con (.str (Str.ofString "")))) (.var 4) (.con (.int 0))) (.con (.int 1))) (.cons (.var 6) .nil))) (.cons (.bi .tuple (.cons (.var 9) .nil)) .nil)))) .nil)))))
def d__law_after : Df := ⟨4, 14, b__law_after⟩
def b__law_asked : Cs := (.cons (.set 3 (.lst .nil)) (.cons (.loop (.tup [4, 5]) (.enum (.cons (.idx (.var 0) (.con (.int 3))) .nil)) (.cons (.unp [6, 7] (.idx (.idx (.var 1) (.con (.int 1))) (.var 4))) (.cons (.set 3 (.bin .add (.var 3) (.ite (.and (.cmp .gt (.var 6) (.con (.int 0))) (.and (.cmp .ne (.var 7) (.con (.int 0))) (.cmp .isin (.var 2) (.idx (.var 5) (.con (.int 2)))))) (.lst (.cons (.var 4) .nil)) (.lst .nil)))) .nil))) (.cons (.ret (.var 3)) .nil)))
def d__law_asked : Df := ⟨3, 8, b__law_asked⟩
def b_uncovered : Cs := (.cons (.xpr (.call "check_state" (.cons (.var 0) (.cons (.var 1) .nil)))) (.cons (.unp [2, 3, 4, 5] (.var 0)) (.cons (.ret (.comp [6, 7] (.tup [6, 7]) (.of (.var 3)) (some (.cmp .eq (.bi .len (.cons (.call "askable" (.cons (.var 0) (.cons (.var 1) (.cons (.var 6) .nil)))) .nil)) (.con (.int 0)))) (.var 6))) .nil)))
def d_uncovered : Df := ⟨2, 8, b_uncovered⟩
def b_covered : Cs := (.cons (.unp [2, 3, 4, 5] (.var 0)) (.cons (.ret (.comp [6, 7] (.tup [6, 7]) (.of (.var 3)) (some (.cmp .gt (.bi .len (.cons (.call "askable" (.cons (.var 0) (.cons (.var 1) (.cons (.var 6) .nil)))) .nil)) (.con (.int 0)))) (.var 6))) .nil))
def d_covered : Df := ⟨2, 8, b_covered⟩
def b_closing : Cs := (.cons (.xpr (.call "check_state" (.cons (.var 0) (.cons (.var 1) .nil)))) (.cons (.set 2 (.call "covered" (.cons (.var 0) (.cons (.call "state_after_quiet" (.cons (.var 0) (.cons (.var 1) .nil))) .nil)))) (.cons (.ret (.comp [3] (.v 3) (.of (.call "covered" (.cons (.var 0) (.cons (.var 1) .nil)))) (some (.cmp .nin (.var 3) (.var 2))) (.var 3))) .nil)))
def d_closing : Df := ⟨2, 4, b_closing⟩
def b_days_open : Cs := (.cons (.xpr (.call "check_state" (.cons (.var 0) (.cons (.var 1) .nil)))) (.cons (.xpr (.call "check_kind" (.cons (.var 2) .nil))) (.cons (.unp [3, 4] (.var 1)) (.cons (.ret (.maxD false (.comp [5] (.v 5) (.of (.call "askable" (.cons (.var 0) (.cons (.var 1) (.cons (.var 2) .nil))))) none (.idx (.idx (.var 4) (.var 5)) (.con (.int 0)))) (.con (.int 0)))) .nil))))
def d_days_open : Df := ⟨3, 6, b_days_open⟩
def b_check_number : Cs := (.cons (.ife (.not (.call "is_number" (.cons (.var 0) (.cons (.var 1) (.cons (.var 2) .nil))))) (.cons (.rais "InvalidNumber") .nil) .nil) .nil)
def d_check_number : Df := ⟨3, 3, b_check_number⟩
def b_check_term_number : Cs := (.cons (.unp [2, 3, 4, 5] (.var 0)) (.cons (.xpr (.call "check_number" (.cons (.var 1) (.cons (.con (.int 0)) (.cons (.bin .sub (.bi .len (.cons (.var 5) .nil)) (.con (.int 1))) .nil))))) .nil))
def d_check_term_number : Df := ⟨2, 6, b_check_term_number⟩
def b_reasons : Cs := (.cons (.xpr (.call "check_state" (.cons (.var 0) (.cons (.var 1) .nil)))) (.cons (.xpr (.call "check_term_number" (.cons (.var 0) (.cons (.var 2) .nil)))) (.cons (.xpr (.call "check_kind" (.cons (.var 3) .nil))) (.cons (.unp [4, 5, 6, 7] (.var 0)) (.cons (.unp [8, 9] (.var 1)) (.cons (.unp [10, 11, 12, 13, 14, 15] (.idx (.var 7) (.var 2))) (.cons (.unp [16, 17] (.idx (.var 9) (.var 2))) (.cons (.own 18 .nil) (.cons (.ife (.cmp .eq (.var 17) (.con (.int 0))) (.cons (.app 18 (.con (.str (Str.ofString "claims")))) .nil) .nil) (.cons (.ife (.cmp .eq (.var 16) (.con (.int 0))) (.cons (.app 18 (.con (.str (Str.ofString "days")))) .nil) .nil) (.cons (.ife (.cmp .nin (.var 3) (.var 12)) (.cons (.app 18 (.con (.str (Str.ofString "kind")))) .nil) .nil) (.cons (.ret (.var 18)) .nil))))))))))))
def d_reasons : Df := ⟨4, 19, b_reasons⟩
def b__law_badpart : Cs := (.cons (.unp [2, 3] (.tup (.cons (.tup (.cons (.tup (.cons (.con (.str (Str.ofString "a"))) (.cons (.con (.int 1)) .nil))) .nil)) (.cons (.tup (.cons (.con (.str (Str.ofString "maker"))) (.cons (.con (.int 2)) (.cons (.con (.str (Str.ofString "a"))) (.cons (.con (.str (Str.ofString "rest"))) (.cons (.con (.int 0)) (.cons (.con (.bool false)) .nil))))))) .nil)))) (.cons (.set 4 (.lst (.cons (.con .none) (.cons (.tup .nil) (.cons (.tup (.cons (.con (.int 5)) (.cons (.var 2) (.cons (.con (.int 0)) .nil)))) (.cons (.tup (.cons (.con (.int 0)) (.cons (.var 2) (.cons (.con (.int 0)) (.cons (.tup .nil) .nil))))) (.cons (.tup (.cons (.con (.int 21)) (.cons (.var 2) (.cons (.con (.int 0)) (.cons (.tup .nil) .nil))))) (.cons (.tup (.cons (.con (.bool true)) (.cons (.var 2) (.cons (.con (.int 0)) (.cons (.tup .nil) .nil))))) .nil)))))))) (.cons (.set 4 (.bin .add (.var 4) (.lst (.cons (.tup (.cons (.con (.int 5)) (.cons (.tup .nil) (.cons (.con (.int 0)) (.cons (.tup .nil) .nil))))) (.cons (.tup (.cons (.con (.int 5)) (.cons (.lst (.cons (.tup (.cons (.con (.str (Str.ofString "a"))) (.cons (.con (.int 1)) .nil))) .nil)) (.cons (.con (.int 0)) (.cons (.tup .nil) .nil))))) .nil))))) (.cons (.set 4 (.bin .add (.var 4) (.lst (.cons (.tup (.cons (.con (.int 5)) (.cons (.tup (.cons (.tup (.cons (.con (.str (Str.ofString "d"))) (.cons (.con (.int 1)) .nil))) .nil)) (.cons (.con (.int 0)) (.cons (.tup .nil) .nil))))) (.cons (.tup (.cons (.con (.int 5)) (.cons (.tup (.cons (.tup (.cons (.con (.str (Str.ofString "a"))) (.cons (.con (.int 7)) .nil))) .nil)) (.cons (.con (.int 0)) (.cons (.tup .nil) .nil))))) (.cons (.tup (.cons (.con (.int 5)) (.cons (.tup (.cons (.tup (.cons (.con (.str (Str.ofString "b"))) (.cons (.con (.int 1)) .nil))) (.cons (.tup (.cons (.con (.str (Str.ofString "a"))) (.cons (.con (.int 1)) .nil))) .nil))) (.cons (.con (.int 0)) (.cons (.tup .nil) .nil))))) .nil)))))) (.cons (.set 4 (.bin .add (.var 4) (.lst (.cons (.tup (.cons (.con (.int 5)) (.cons (.tup (.cons (.tup (.cons (.con (.str (Str.ofString "a"))) (.cons (.con (.int 2)) .nil))) .nil)) (.cons (.con (.int 1)) (.cons (.tup .nil) .nil))))) .nil)))) (.cons (.set 4 (.bin .add (.var 4) (.lst (.cons (.tup (.cons (.con (.int 5)) (.cons (.var 2) (.cons (.con (.int 9)) (.cons (.tup .nil) .nil))))) (.cons (.tup (.cons (.con (.int 5)) (.cons (.var 2) (.cons (.con (.int 0)) (.cons (.tup (.cons (.var 3) (.cons (.var 3) .nil))) .nil))))) (.cons (.tup (.cons (.con (.int 5)) (.cons (.var 2) (.cons (.con (.int 0)) (.cons (.lst (.cons (.var 3) .nil)) .nil))))) .nil)))))) (.cons (.set 4 (.bin .add (.var 4) (.lst (.cons (.tup (.cons (.con (.int 5)) (.cons (.var 2) (.cons (.con (.int 0)) (.cons (.tup (.cons (.sli (.var 3) none (some (.con (.int 5)))) .nil)) .nil))))) .nil)))) (.cons (.set 4 (.bin .add (.var 4) (.lst (.cons (.tup (.cons (.con (.int 5)) (.cons (.var 2) (.cons (.con (.int 0)) (.cons (.tup (.cons (.bin .add (.bin .add (.sli (.var 3) none (some (.con (.int 1)))) (.tup (.cons (.con (.int 0)) .nil))) (.sli (.var 3) (some (.con (.int 2))) none)) .nil)) .nil))))) .nil)))) (.cons (.set 4 (.bin .add (.var 4) (.lst (.cons (.tup (.cons (.con (.int 5)) (.cons (.var 2) (.cons (.con (.int 0)) (.cons (.tup (.cons (.bin .add (.tup (.cons (.con (.str (Str.ofString "Maker"))) .nil)) (.sli (.var 3) (some (.con (.int 1))) none)) .nil)) .nil))))) .nil)))) (.cons (.ret (.idx (.var 4) (.call "_law_drawn" (.cons (.var 0) (.cons (.var 1) (.cons (.con (.int 18)) .nil)))))) .nil))))))))))
def d__law_badpart : Df := ⟨2, 5, b__law_badpart⟩
def b__law_badstate : Cs := (.cons (.set 3 (.bi .tuple (.cons (.comp [4] (.v 4) (.of (.idx (.var 2) (.con (.int 3)))) none (.tup (.cons (.con (.int 0)) (.cons (.ite (.cmp .gt (.idx (.var 4) (.con (.int 4))) (.con (.int 0))) (.con (.int 0)) (.neg (.con (.int 1)))) .nil)))) .nil))) (.cons (.set 5 (.lst (.cons (.con .none) (.cons (.tup .nil) (.cons (.tup (.cons (.con (.int 0)) .nil)) (.cons (.tup (.cons (.neg (.con (.int 1))) (.cons (.var 3) .nil))) (.cons (.tup (.cons (.con (.int 9)) (.cons (.var 3) .nil))) (.cons (.tup (.cons (.con (.int 0)) (.cons (.bin .add (.var 3) (.tup (.cons (.tup (.cons (.con (.int 0)) (.cons (.con (.int 0)) .nil))) .nil))) .nil))) (.cons (.tup (.cons (.con (.bool true)) (.cons (.var 3) .nil))) (.cons (.lst (.cons (.con (.int 0)) (.cons (.var 3) .nil))) .nil)))))))))) (.cons (.set 5 (.bin .add (.var 5) (.lst (.cons (.tup (.cons (.con (.int 0)) (.cons (.bi .list (.cons (.var 3) .nil)) .nil))) (.cons (.tup (.cons (.con (.str (Str.ofString "0"))) (.cons (.var 3) .nil))) .nil))))) (.cons (.ret (.idx (.var 5) (.call "_law_drawn" (.cons (.var 0) (.cons (.var 1) (.cons (.con (.int 10)) .nil)))))) .nil))))
def d__law_badstate : Df := ⟨3, 6, b__law_badstate⟩
def b__law_error : Cs := (.cons (.tryF (.cons (.ife (.cmp .lt (.var 0) (.con (.int 2))) (.cons (.xpr (.callX ["uncovered", "closing"] (.var 0) (.cons (.var 1) (.cons (.var 2) .nil)))) .nil) (.cons (.ife (.cmp .eq (.var 0) (.con (.int 2))) (.cons (.xpr (.call "days_open" (.cons (.var 1) (.cons (.var 2) (.cons (.var 4) .nil))))) .nil) (.cons (.xpr (.call "reasons" (.cons (.var 1) (.cons (.var 2) (.cons (.var 3) (.cons (.var 4) .nil)))))) .nil)) .nil)) .nil) 5 6 [["InvalidPart", "InvalidState"], ["InvalidNumber"], ["InvalidKind"]]) (.cons (.ret (.con .none)) .nil))
def d__law_error : Df := ⟨5, 7, b__law_error⟩
def b_law_k64 : Cs := (.cons (.set 1 (.call "_law_raw" (.cons (.var 0) (.cons (.con (.int 10)) (.cons (.con (.int 3)) .nil))))) (.cons (.loop (.v 2) (.range1 (.cons (.con (.int 4)) .nil)) (.cons (.set 3 (.call "_law_state" (.cons (.var 0) (.cons (.bin .add (.con (.int 60)) (.bin .mul (.con (.int 8)) (.var 2))) (.cons (.var 1) .nil))))) (.cons (.unp [4, 5] (.tup (.cons (.comp [6] (.v 6) (.of (.idx (.var 1) (.con (.int 1)))) none (.idx (.var 6) (.con (.int 0)))) (.cons (.call "_law_after" (.cons (.var 1) (.cons (.var 3) (.cons (.con (.str (Str.ofString ""))) (.cons (.con .none) .nil))))) .nil)))) (.cons (.set 7 (.comp [8] (.v 8) (.of (.var 4)) (some (.cmp .ne (.call "_law_asked" (.cons (.var 1) (.cons (.var 3) (.cons (.var 8) .nil)))) (.lst .nil))) (.var 8))) (.cons (.ife (.cmp .ne (.call "uncovered" (.cons (.var 1) (.cons (.var 3) .nil))) (.comp [8] (.v 8) (.of (.var 4)) (some (.cmp .nin (.var 8) (.var 7))) (.var 8))) (.cons (.ret (.con (.bool false))) .nil) .nil) (.cons (.ife (.cmp .ne (.call "closing" (.cons (.var 1) (.cons (.var 3) .nil))) (.comp [8] (.v 8) (.of (.var 7)) (some (.cmp .eq (.call "_law_asked" (.cons (.var 1) (.cons (.var 5) (.cons (.var 8) .nil)))) (.lst .nil))) (.var 8))) (.cons (.ret (.con (.bool false))) .nil) .nil) (.cons (.loop (.v 8) (.of (.con (.str (Str.ofString "abc")))) (.cons (.par 9 10 (.var 3) (.con (.int 0))) (.cons (.whl (.cmp .ne (.call "_law_asked" (.cons (.var 1) (.cons (.var 9) (.cons (.var 8) .nil)))) (.lst .nil)) (.cons (.par 9 10 (.call "_law_after" (.cons (.var 1) (.cons (.var 9) (.cons (.con (.str (Str.ofString ""))) (.cons (.con .none) .nil))))) (.bin .add (.var 10) (.con (.int 1)))) .nil)) (.cons (.ife (.cmp .ne (.call "days_open" (.cons (.var 1) (.cons (.var 3) (.cons (.var 8) .nil)))) (.var 10)) (.cons (.ret (.con (.bool false))) .nil) .nil) (.cons (.loop (.tup [11, 12]) (.enum (.cons (.idx (.var 1) (.con (.int 3))) .nil)) (.cons (.unp [13, 14] (.idx (.idx (.var 3) (.con (.int 1))) (.var 11))) (.cons (.set 15 (.bin .add (.ite (.cmp .eq (.var 14) (.con (.int 0))) (.lst (.cons (.con (.str (Str.ofString "claims"))) .nil)) (.lst .nil)) (.ite (.cmp .eq (.var 13) (.con (.int 0))) (.lst (.cons (.con (.str (Str.ofString "days"))) .nil)) (.lst .nil)))) (.cons (.set 15 (.bin .add (.var 15) (.ite (.cmp .isin (.var 8) (.idx (.var 12) (.con (.int 2)))) (.lst .nil) (.lst (.cons (.con (.str (Str.ofString "kind"))) .nil))))) (.cons (.ife (.cmp .ne (.call "reasons" (.cons (.var 1) (.cons (.var 3) (.cons (.var 11) (.cons (.var 8) .nil))))) (.var 15)) (.cons (.ret (.con (.bool false))) .nil) .nil) (.cons (.ife (.cmp .ne (.cmp .eq (.var 15) (.lst .nil)) (.cmp .isin (.var 11) (.call "asked" (.cons (.var 1) (.cons (.var 3) (.cons (.var 8) .nil)))))) (.cons (.ret (.con (.bool false))) .nil) .nil) .nil)))))) .nil))))) .nil))))))) (.cons (.unp [16, 17] (.tup (.cons (.call "_law_badpart" (.cons (.var 0) (.cons (.con (.int 1)) .nil))) (.cons (.call "_law_badstate" (.cons (.var 0) (.cons (.con (.int 2)) (.cons (.var 1) .nil)))) .nil)))) (.cons (.set 11 (.idx (.lst (.cons (.con .none) (.cons (.neg (.con (.int 1))) (.cons (.bi .len (.cons (.idx (.var 1) (.con (.int 3))) .nil)) (.cons (.con (.bool true)) (.cons (.con (.str (Str.ofString "0"))) .nil)))))) (.call "_law_drawn" (.cons (.var 0) (.cons (.con (.int 3)) (.cons (.con (.int 5)) .nil)))))) (.cons (.set 8 (.idx (.lst (.cons (.con .none) (.cons (.con (.str (Str.ofString ""))) (.cons (.con (.str (Str.ofString "d"))) (.cons (.con (.str (Str.ofString "ab"))) (.cons (.con (.int 1)) .nil)))))) (.call "_law_drawn" (.cons (.var 0) (.cons (.con (.int 4)) (.cons (.con (.int 5)) .nil)))))) (.cons (.set 18 (.comp [19] (.v 19) (.range1 (.cons (.con (.int 4)) .nil)) none (.call "_law_error" (.cons (.var 19) (.cons (.var 16) (.cons (.var 17) (.cons (.var 11) (.cons (.var 8) .nil)))))))) (.cons (.set 18 (.bin .add (.var 18) (.comp [19] (.v 19) (.range1 (.cons (.con (.int 4)) .nil)) none (.call "_law_error" (.cons (.var 19) (.cons (.var 1) (.cons (.var 17) (.cons (.var 11) (.cons (.var 8) .nil))))))))) (.cons (.set 18 (.bin .add (.var 18) (.lst (.cons (.call "_law_error" (.cons (.con (.int 2)) (.cons (.var 1) (.cons (.var 3) (.cons (.var 11) (.cons (.var 8) .nil)))))) (.cons (.call "_law_error" (.cons (.con (.int 3)) (.cons (.var 1) (.cons (.var 3) (.cons (.var 11) (.cons (.var 8) .nil)))))) .nil))))) (.cons (.ife (.and (.cmp .ne (.idx (.var 1) (.con (.int 3))) (.tup .nil)) (.cmp .ne (.call "_law_error" (.cons (.con (.int 3)) (.cons (.var 1) (.cons (.var 3) (.cons (.con (.int 0)) (.cons (.var 8) .nil)))))) (.con (.int 3)))) (.cons (.ret (.con (.bool false))) .nil) .nil) (.cons (.ret (.cmp .eq (.var 18) (.bin .add (.bin .add (.bin .mul (.lst (.cons (.con (.int 0)) .nil)) (.con (.int 4))) (.bin .mul (.lst (.cons (.con (.int 1)) .nil)) (.con (.int 4)))) (.lst (.cons (.con (.int 3)) (.cons (.con (.int 2)) .nil)))))) .nil))))))))))
def d_law_k64 : Df := ⟨1, 20, b_law_k64⟩
end Rf
namespace Rf
open PySem
/-! ### what the evaluator does, as equations for simp -/
def getV (o : Option (Option Wd)) (S : Sto) : Res Wd := match o with
  | some (some w) => .ok w S
  | _ => .no
@[simp] theorem getV_some (w : Wd) (S : Sto) : getV (some (some w)) S = .ok w S := rfl
section
variable {O : Orc} {fu lo : Nat} {env : Env} {S : Sto}
def compF (O : Orc) (lo : Nat) (vs : List Nat) (t : T) (env : Env) (c : Option E) (x : E) : PyData → Sto → Res (Option PyData) := fun y S => (orNo (t.put y (wipeE env vs)) S).bind fun env1 S =>
      ((evc O lo c env1 S).bind fun k S2 => if k then (ev O lo x env1 S2).bind fun w S3 => (toD lo w S3).bind fun z S4 => .ok (some z) S4 else .ok none S2).nox
def loopF (O : Orc) (fu lo : Nat) (t : T) (b : Cs) : PyData → Env → Sto → Rs := fun x env S => optRs (t.put x env) fun env => exCs O fu lo b env S
@[simp] theorem ev_var (i : Nat) : ev O lo (.var i) env S = getV env[i]? S := by simp only [ev]; unfold getV; rfl
@[simp] theorem ev_con (c : PyData) : ev O lo (.con c) env S = .ok (.d c) S := by simp only [ev]
@[simp] theorem ev_glo (x : String) (c : PyData) : ev O lo (.glo x c) env S = .ok (.d c) S := by simp only [ev]
@[simp] theorem ev_tup (a : Es) : ev O lo (.tup a) env S = (evs O lo a env S).bind fun ws S1 => (toDs lo ws S1).bind fun xs S2 => .ok (.d (.tuple xs)) S2 := by simp only [ev]
@[simp] theorem ev_lst (a : Es) : ev O lo (.lst a) env S = (evs O lo a env S).bind fun ws S1 => (toDs lo ws S1).bind fun xs S2 => .ok (.d (.list xs)) S2 := by simp only [ev]
@[simp] theorem ev_bin (op : Bop) (a b : E) : ev O lo (.bin op a b) env S = (ev O lo a env S).bind fun x S1 => (ev O lo b env S1).bind fun y S2 =>
      (orNo (peek S2 x) S2).bind fun x' _ => (orNo (peek S2 y) S2).bind fun y' _ => (orNo (binD op x' y') S2).bind fun z _ => .ok (.d z) S2 := by simp only [ev]
@[simp] theorem ev_neg (a : E) : ev O lo (.neg a) env S = (ev O lo a env S).bind fun x S1 => (orNo (asI x) S1).bind fun i _ => .ok (.d (.int (-i))) S1 := by simp only [ev]
@[simp] theorem ev_cmp (op : Cop) (a b : E) : ev O lo (.cmp op a b) env S = (ev O lo a env S).bind fun x S1 => (ev O lo b env S1).bind fun y S2 =>
      (orNo (peek S2 x) S2).bind fun x' _ => (orNo (peek S2 y) S2).bind fun y' _ => (orNo (cmpD op x' y') S2).bind fun z _ => .ok (.d (.bool z)) S2 := by simp only [ev]
@[simp] theorem ev_chn (o p : Cop) (a b c : E) : ev O lo (.chn o p a b c) env S = (ev O lo a env S).bind fun x S1 => (ev O lo b env S1).bind fun y S2 =>
      (orNo (peek S2 x) S2).bind fun x' _ => (orNo (peek S2 y) S2).bind fun y' _ => (orNo (cmpD o x' y') S2).bind fun z _ =>
        if z then (ev O lo c env S2).bind fun w S3 => (orNo (peek S3 w) S3).bind fun w' _ => (orNo (peek S3 y) S3).bind fun y2 _ => (orNo (cmpD p y2 w') S3).bind fun z2 _ => .ok (.d (.bool z2)) S3
        else .ok (.d (.bool false)) S2 := by simp only [ev]
@[simp] theorem ev_and (a b : E) : ev O lo (.and a b) env S = (ev O lo a env S).bind fun x S1 => (orNo (asB x) S1).bind fun k _ => if k then ev O lo b env S1 else .ok (.d (.bool false)) S1 := by simp only [ev]
@[simp] theorem ev_or (a b : E) : ev O lo (.or a b) env S = (ev O lo a env S).bind fun x S1 => (orNo (asB x) S1).bind fun k _ => if k then .ok (.d (.bool true)) S1 else ev O lo b env S1 := by simp only [ev]
@[simp] theorem ev_not (a : E) : ev O lo (.not a) env S = (ev O lo a env S).bind fun x S1 => (orNo (asB x) S1).bind fun k _ => .ok (.d (.bool (!k))) S1 := by simp only [ev]
@[simp] theorem ev_ite (c a b : E) : ev O lo (.ite c a b) env S = (ev O lo c env S).bind fun x S1 => (orNo (asB x) S1).bind fun k _ => if k then ev O lo a env S1 else ev O lo b env S1 := by simp only [ev]
@[simp] theorem crRes_d (x : PyData) : crRes (.d x) S = .ok (.d x) S := rfl
@[simp] theorem crRes_ex (c : String) : crRes (.ex c) S = .ex c S := rfl
@[simp] theorem crRes_fresh (x : List PyData) : crRes (.fresh x) S = .ok (.d (.list x)) S := rfl
@[simp] theorem ev_call (f : String) (a : Es) : ev O lo (.call f a) env S = (evs O lo a env S).bind fun ws S1 => crRes (O f ws S1) S1 := by
  simp only [ev]; rfl
@[simp] theorem ev_maxD (mn : Bool) (a d : E) : ev O lo (.maxD mn a d) env S = (ev O lo a env S).bind fun x S1 => (ev O lo d env S1).bind fun y S2 =>
      (orNo (peek S2 x) S2).bind fun x' _ => (orNo (asL x') S2).bind fun xs _ => (orNo (intsOf xs) S2).bind fun ns _ => .ok (maxW mn ns y) S2 := by simp only [ev]
@[simp] theorem ev_callX (fs : List String) (i : E) (a : Es) : ev O lo (.callX fs i a) env S = (ev O lo i env S).bind fun x S0 => (orNo ((asI x).bind (fnAt fs)) S0).bind fun f _ => (evs O lo a env S0).bind fun ws S1 => crRes (O f ws S1) S1 := by simp only [ev]
@[simp] theorem ev_bi (f : Bi) (a : Es) : ev O lo (.bi f a) env S = (evs O lo a env S).bind fun ws S1 => (orNo (peeks S1 ws) S1).bind fun xs _ => (orNo (biD f xs) S1).bind fun z _ => .ok (.d z) S1 := by simp only [ev]
@[simp] theorem ev_isi (a : E) (t : Ty) : ev O lo (.isi a t) env S = (ev O lo a env S).bind fun x S1 => (orNo (peek S1 x) S1).bind fun x' _ => .ok (.d (.bool (isiD t x'))) S1 := by simp only [ev]
@[simp] theorem ev_idx (a i : E) : ev O lo (.idx a i) env S = (ev O lo a env S).bind fun x S1 => (ev O lo i env S1).bind fun y S2 =>
      (orNo (peek S2 x) S2).bind fun x' _ => (orNo (peek S2 y) S2).bind fun y' _ => (orNo (idxD x' y') S2).bind fun z _ => .ok (.d z) S2 := by simp only [ev]
@[simp] theorem ev_sli (a : E) (l h : Option E) : ev O lo (.sli a l h) env S = (ev O lo a env S).bind fun x S1 => (evo O lo l env S1).bind fun i S2 => (evo O lo h env S2).bind fun j S3 =>
      (orNo (peek S3 x) S3).bind fun x' _ => (orNo (sliD x' i j) S3).bind fun z _ => .ok (.d z) S3 := by simp only [ev]
theorem ev_comp (vs : List Nat) (t : T) (it : I) (c : Option E) (x : E) : ev O lo (.comp vs t it c x) env S = (evI O lo it env S).bind fun p S1 => (compGo (compF O lo vs t env c x) p.1 S1).bind fun ys S2 => .ok (.d (.list ys)) S2 := by
  simp only [ev]; rfl
@[simp] theorem ev_join (o a : E) : ev O lo (.join o a) env S = (ev O lo o env S).bind fun x S1 => (orNo (asS x) S1).bind fun s _ => (ev O lo a env S1).bind fun y S2 =>
      (orNo (peek S2 y) S2).bind fun y' _ => (orNo (asL y') S2).bind fun ys _ => (orNo (strsOf ys) S2).bind fun zs _ => (orNo (joinD s zs) S2).bind fun z _ => .ok (.d z) S2 := by simp only [ev]
@[simp] theorem evs_nil : evs O lo .nil env S = .ok [] S := by simp only [evs]
@[simp] theorem evs_cons (a : E) (b : Es) : evs O lo (.cons a b) env S = (ev O lo a env S).bind fun w S1 => (evs O lo b env S1).bind fun ws S2 => .ok (w :: ws) S2 := by simp only [evs]
@[simp] theorem evo_none : evo O lo none env S = .ok none S := by simp only [evo]
@[simp] theorem evo_some (e : E) : evo O lo (some e) env S = (ev O lo e env S).bind fun w S1 => (orNo (asI w) S1).bind fun i _ => .ok (some i) S1 := by simp only [evo]
@[simp] theorem evc_none : evc O lo none env S = .ok true S := by simp only [evc]
@[simp] theorem evc_some (e : E) : evc O lo (some e) env S = (ev O lo e env S).bind fun w S1 => (orNo (asB w) S1).bind fun i _ => .ok i S1 := by simp only [evc]
@[simp] theorem evI_of (a : E) : evI O lo (.of a) env S = (ev O lo a env S).bind fun x S1 => (orNo (peek S1 x) S1).bind fun x' _ => (orNo (itemsD x') S1).bind fun xs _ => .ok (xs, [x]) S1 := by simp only [evI]
@[simp] theorem evI_range1 (a : Es) : evI O lo (.range1 a) env S = (evs O lo a env S).bind fun ws S1 => (orNo (asI1 ws) S1).bind fun j _ => if rngB j && decide (j.toNat ≤ LIM) then .ok (rangeL 0 j.toNat, []) S1 else .no := by simp only [evI]
@[simp] theorem evI_enum (a : Es) : evI O lo (.enum a) env S = (evs O lo a env S).bind fun ws S1 => (orNo (peeks S1 ws) S1).bind fun xs _ => (orNo (seq1 xs) S1).bind fun ys _ => .ok (enumL 0 ys, ws) S1 := by simp only [evI]
@[simp] theorem evI_zip (a : Es) : evI O lo (.zip a) env S = (evs O lo a env S).bind fun ws S1 => (orNo (peeks S1 ws) S1).bind fun xs _ => (orNo (seq2 xs) S1).bind fun p _ => .ok (zipL p.1 p.2, ws) S1 := by simp only [evI]
@[simp] theorem evI_enumZ (a : Es) : evI O lo (.enumZ a) env S = (evs O lo a env S).bind fun ws S1 => (orNo (peeks S1 ws) S1).bind fun xs _ => (orNo (tup2 xs) S1).bind fun p _ => .ok (enumL 0 (zipL p.1 p.2), ws) S1 := by simp only [evI]
/-! statements -/
@[simp] theorem exCs_nil : exCs O fu lo .nil env S = .nx env S := by simp only [exCs]
@[simp] theorem exCs_cons (a : C) (b : Cs) : exCs O fu lo (.cons a b) env S = (exC O fu lo a env S).then fun env S => exCs O fu lo b env S := by simp only [exCs]
@[simp] theorem exC_set (i : Nat) (e : E) : exC O fu lo (.set i e) env S = (ev O lo e env S).rs env fun w S => .nx (env.set i (some w)) S := by simp only [exC]
@[simp] theorem exC_own (i : Nat) (e : Es) : exC O fu lo (.own i e) env S = (evs O lo e env S).rs env fun ws S => (toDs lo ws S).rs env fun xs S => .nx (env.set i (some (.r S.length))) (S ++ [.lst xs]) := by simp only [exC]
@[simp] theorem exC_unp (is : List Nat) (e : E) : exC O fu lo (.unp is e) env S = (ev O lo e env S).rs env fun w S => optRs (argOf w) fun x => optRs ((T.tup is).put x env) fun env => .nx env S := by simp only [exC]
@[simp] theorem exC_par (i j : Nat) (a b : E) : exC O fu lo (.par i j a b) env S = (ev O lo a env S).rs env fun x S => (ev O lo b env S).rs env fun y S => .nx ((env.set i (some x)).set j (some y)) S := by simp only [exC]
@[simp] theorem exC_parG (is : List Nat) (ps : List Pe) : exC O fu lo (.parG is ps) env S = (evP O lo ps env S).rs env fun qs S => .nx (storeP is qs env S).1 (storeP is qs env S).2 := by simp only [exC]
@[simp] theorem exC_aug (i : Nat) (op : Bop) (e : E) : exC O fu lo (.aug i op e) env S = optRs ((env[i]?).bind id) fun x => (ev O lo e env S).rs env fun y S => optRs (argOf x) fun x' => optRs (argOf y) fun y' => optRs (augD op x' y') fun z => .nx (env.set i (some (.d z))) S := by simp only [exC]
def pushIf (env : Env) (S : Sto) (x : List PyData) (p : Nat × List PyData) : Rs := if p.2.length + x.length ≤ LIM then .nx env (S.set p.1 (.lst (p.2 ++ x))) else .no
@[simp] theorem exC_app (i : Nat) (e : E) : exC O fu lo (.app i e) env S = optRs (lstAt lo env S i) fun _ => (ev O lo e env S).rs env fun w S => (toD lo w S).rs env fun x S => optRs (lstAt lo env S i) (pushIf env S [x]) := by
  simp only [exC, pushIf, List.length_cons, List.length_nil]; rfl
@[simp] theorem exC_ext (i : Nat) (e : E) : exC O fu lo (.ext i e) env S = optRs (lstAt lo env S i) fun _ => (ev O lo e env S).rs env fun w S => optRs ((argOf w).bind asL) fun ys => optRs (lstAt lo env S i) (pushIf env S ys) := by
  simp only [exC]; rfl
@[simp] theorem exC_tryF (b : Cs) (i j : Nat) (Ls : List (List String)) : exC O fu lo (.tryF b i j Ls) env S = (exCs O fu lo b env S).flag i j Ls := by simp only [exC]
@[simp] theorem flag_ex (i j : Nat) (Ls : List (List String)) (c : String) : (Rs.ex c env S).flag i j Ls = if i < env.length ∧ j < env.length then optRs (placeOf c Ls.flatten) fun n => .rt (.d (.int n)) S else .no := rfl
@[simp] theorem flag_nx (i j : Nat) (Ls : List (List String)) : (Rs.nx env S).flag i j Ls = .nx env S := rfl
@[simp] theorem flag_rt (i j : Nat) (Ls : List (List String)) (w : Wd) : (Rs.rt w S).flag i j Ls = .rt w S := rfl
@[simp] theorem exC_ife (c : E) (a b : Cs) : exC O fu lo (.ife c a b) env S = ((ev O lo c env S).bind fun w S1 => (orNo (asB w) S1)).rs env fun k S => if k then exCs O fu lo a env S else exCs O fu lo b env S := by simp only [exC]
theorem exC_loop (t : T) (it : I) (b : Cs) : exC O fu lo (.loop t it b) env S = (evI O lo it env S).rs env fun p S1 => (forGo (loopF O fu lo t b) p.1 env (lockAll lo p.2 S1)).free lo S1 p.2 := by
  simp only [exC]; rfl
@[simp] theorem exC_ret (e : E) : exC O fu lo (.ret e) env S = (ev O lo e env S).rs env fun w S => .rt w S := by simp only [exC]
@[simp] theorem exC_rais (c : String) : exC O fu lo (.rais c) env S = .ex c env S := by simp only [exC]
@[simp] theorem exC_xpr (e : E) : exC O fu lo (.xpr e) env S = (ev O lo e env S).rs env fun _ S => .nx env S := by simp only [exC]
@[simp] theorem ev_din (neg : Bool) (a b : E) : ev O lo (.din neg a b) env S = (ev O lo a env S).bind fun x S1 => (ev O lo b env S1).bind fun y S2 =>
      (orNo (peek S2 x) S2).bind fun x' _ => (orNo (keyT x') S2).bind fun k _ => (orNo (dictW S2 y) S2).bind fun kvs _ => .ok (.d (.bool (neg != (dFind kvs k).isSome))) S2 := by simp only [ev]
@[simp] theorem ev_dget (b a : E) : ev O lo (.dget b a) env S = (ev O lo b env S).bind fun y S1 => (ev O lo a env S1).bind fun x S2 =>
      (orNo (peek S2 x) S2).bind fun x' _ => (orNo (keyT x') S2).bind fun k _ => (orNo (dictW S2 y) S2).bind fun kvs _ => (orNo (dFind kvs k) S2).bind fun d _ => .ok (.d d) S2 := by simp only [ev]
@[simp] theorem exC_dput (i : Nat) (a b : E) : exC O fu lo (.dput i a b) env S = optRs (dctAt lo env S i) fun _ => (ev O lo b env S).rs env fun w S => (toD lo w S).rs env fun z S => (ev O lo a env S).rs env fun x S =>
      optRs (peek S x) fun x' => optRs (keyT x') fun k => optRs (dctAt lo env S i) fun q => if q.2.length + 1 ≤ LIM then .nx env (S.set q.1 (.dct (dPut q.2 k x' z))) else .no := by simp only [exC]
@[simp] theorem exC_dnew (i : Nat) : exC O fu lo (.dnew i) env S = .nx (env.set i (some (.r S.length))) (S ++ [.dct []]) := by simp only [exC]
@[simp] theorem evP_nil : evP O lo [] env S = .ok [] S := by simp only [evP]
@[simp] theorem evP_e (a : E) (r : List Pe) : evP O lo (.e a :: r) env S = (ev O lo a env S).bind fun w S1 => (evP O lo r env S1).bind fun ps S2 => .ok (.w w :: ps) S2 := by simp only [evP]
@[simp] theorem evP_o (a : Es) (r : List Pe) : evP O lo (.o a :: r) env S = (evs O lo a env S).bind fun ws S1 => (toDs lo ws S1).bind fun xs S2 => (evP O lo r env S2).bind fun ps S3 => .ok (.l xs :: ps) S3 := by simp only [evP]
@[simp] theorem storeP_nil (ps : List Po1) : storeP [] ps env S = (env, S) := by cases ps <;> rfl
@[simp] theorem storeP_w (i : Nat) (is : List Nat) (w : Wd) (ps : List Po1) : storeP (i :: is) (.w w :: ps) env S = storeP is ps (env.set i (some w)) S := rfl
@[simp] theorem storeP_l (i : Nat) (is : List Nat) (xs : List PyData) (ps : List Po1) : storeP (i :: is) (.l xs :: ps) env S = storeP is ps (env.set i (some (.r S.length))) (S ++ [.lst xs]) := rfl
@[simp] theorem rs_ex {α : Type} (c : String) (f : α → Sto → Rs) : (Res.ex c S).rs env f = .ex c env S := rfl
@[simp] theorem then_ex (c : String) (f : Env → Sto → Rs) : (Rs.ex c env S).then f = .ex c env S := rfl
@[simp] theorem free_nx0 (S0 : Sto) (ws : List Wd) : (Rs.nx env S).free lo S0 ws = .nx env (freeAll lo S0 ws S) := rfl
@[simp] theorem free_rt0 (S0 : Sto) (ws : List Wd) (w : Wd) : (Rs.rt w S).free lo S0 ws = .rt w S := rfl
@[simp] theorem freeAll_nil (S0 : Sto) : freeAll lo S0 [] S = S := rfl
@[simp] theorem freeAll_d (S0 : Sto) (x : PyData) (ws : List Wd) : freeAll lo S0 (.d x :: ws) S = freeAll lo S0 ws S := rfl
@[simp] theorem lockAll_nil : lockAll lo [] S = S := rfl
@[simp] theorem lockAll_d (x : PyData) (ws : List Wd) : lockAll lo (.d x :: ws) S = lockAll lo ws S := rfl
@[simp] theorem nox_ok' {α : Type} (a : α) : (Res.ok a S).nox = .ok a S := rfl
/-! values -/
@[simp] theorem peek_d (x : PyData) : peek S (.d x) = some x := rfl
@[simp] theorem peek_r (n : Nat) : peek S (.r n) = (S[n]?).bind fun o => o.list?.map .list := rfl
@[simp] theorem list_lst (xs : List PyData) : So.list? (.lst xs) = some xs := rfl
@[simp] theorem list_lck (xs : List PyData) : So.list? (.lck xs) = some xs := rfl
@[simp] theorem list_frz (xs : List PyData) : So.list? (.frz xs) = some xs := rfl
@[simp] theorem items_lst (xs : List PyData) : So.items (.lst xs) = xs := rfl
@[simp] theorem items_lck (xs : List PyData) : So.items (.lck xs) = xs := rfl
@[simp] theorem items_frz (xs : List PyData) : So.items (.frz xs) = xs := rfl
@[simp] theorem peeks_nil : peeks S [] = some [] := rfl
@[simp] theorem peeks_d (x : PyData) (ws : List Wd) : peeks S (.d x :: ws) = (peeks S ws).map (x :: ·) := rfl
@[simp] theorem peeks_r (n : Nat) (ws : List Wd) : peeks S (.r n :: ws) = ((S[n]?).bind fun o => o.list?.map PyData.list).bind fun x => (peeks S ws).map (x :: ·) := rfl
@[simp] theorem toD_d (x : PyData) : toD lo (.d x) S = .ok x S := rfl
@[simp] theorem toDs_nil : toDs lo [] S = .ok [] S := rfl
@[simp] theorem toDs_d (x : PyData) (ws : List Wd) : toDs lo (.d x :: ws) S = (toDs lo ws S).bind fun xs S2 => .ok (x :: xs) S2 := rfl
@[simp] theorem asB_b (b : Bool) : asB (.d (.bool b)) = some b := rfl
@[simp] theorem asI_i (b : Int) : asI (.d (.int b)) = some b := rfl
@[simp] theorem asS_s (b : Str) : asS (.d (.str b)) = some b := rfl
@[simp] theorem asL_l (b : List PyData) : asL (.list b) = some b := rfl
@[simp] theorem asI1_i (b : Int) : asI1 [.d (.int b)] = some b := rfl
@[simp] theorem seq1_l (b : List PyData) : seq1 [.list b] = some b := rfl
@[simp] theorem seq1_t (b : List PyData) : seq1 [.tuple b] = some b := rfl
@[simp] theorem seq2_l (a b : List PyData) : seq2 [.list a, .list b] = some (a, b) := rfl
@[simp] theorem seq2_t (a b : List PyData) : seq2 [.tuple a, .tuple b] = some (a, b) := rfl
@[simp] theorem tup2_t (a b : List PyData) : tup2 [.tuple a, .tuple b] = some (a, b) := rfl
@[simp] theorem argOf_d (x : PyData) : argOf (.d x) = some x := rfl
@[simp] theorem itemsD_l (a : List PyData) : itemsD (.list a) = some a := rfl
@[simp] theorem itemsD_t (a : List PyData) : itemsD (.tuple a) = some a := rfl
@[simp] theorem put_v (i : Nat) (x : PyData) : (T.v i).put x env = some (env.set i (some (.d x))) := by simp only [T.put]
@[simp] theorem put_tup (ts : List Nat) (xs : List PyData) : (T.tup ts).put (.tuple xs) env = if xs.length = ts.length then some (bindAll ts xs env) else none := by simp only [T.put]
@[simp] theorem put_nest (ts : Ts) (xs : List PyData) : (T.nest ts).put (.tuple xs) env = ts.puts xs env := by simp only [T.put]
@[simp] theorem puts_nil : Ts.puts .nil [] env = some env := by simp only [Ts.puts]
@[simp] theorem puts_cons (t : T) (ts : Ts) (x : PyData) (xs : List PyData) : Ts.puts (.cons t ts) (x :: xs) env = (t.put x env).bind fun env => ts.puts xs env := by simp only [Ts.puts]
@[simp] theorem bindAll_nil (xs : List PyData) : bindAll [] xs env = env := by cases xs <;> rfl
@[simp] theorem bindAll_cons (i : Nat) (is : List Nat) (x : PyData) (xs : List PyData) : bindAll (i :: is) (x :: xs) env = bindAll is xs (env.set i (some (.d x))) := rfl
@[simp] theorem wipeE_nil : wipeE env [] = env := rfl
@[simp] theorem wipeE_cons (v : Nat) (vs : List Nat) : wipeE env (v :: vs) = (wipeE env vs).set v none := rfl
@[simp] theorem add_ii (a b : Int) : binD .add (.int a) (.int b) = some (.int (a + b)) := rfl
@[simp] theorem sub_ii (a b : Int) : binD .sub (.int a) (.int b) = some (.int (a - b)) := rfl
@[simp] theorem add_tt (a b : List PyData) : binD .add (.tuple a) (.tuple b) = if a.length + b.length ≤ LIM then some (.tuple (a ++ b)) else none := rfl
@[simp] theorem add_ll (a b : List PyData) : binD .add (.list a) (.list b) = if a.length + b.length ≤ LIM then some (.list (a ++ b)) else none := rfl
@[simp] theorem cmp_lt (a b : Int) : cmpD .lt (.int a) (.int b) = some (decide (a < b)) := rfl
@[simp] theorem cmp_le (a b : Int) : cmpD .le (.int a) (.int b) = some (decide (a ≤ b)) := rfl
@[simp] theorem cmp_gt (a b : Int) : cmpD .gt (.int a) (.int b) = some (decide (b < a)) := rfl
@[simp] theorem cmp_ge (a b : Int) : cmpD .ge (.int a) (.int b) = some (decide (b ≤ a)) := rfl
theorem okD_int' (i : Int) : okD (.int i) = true := rfl
theorem okD_bool' (i : Bool) : okD (.bool i) = true := rfl
theorem okD_none' : okD .none = true := rfl
@[simp] theorem eq_ii (a b : Int) : cmpD .eq (.int a) (.int b) = some (a == b) := rfl
@[simp] theorem ne_ii (a b : Int) : cmpD .ne (.int a) (.int b) = some (!(a == b)) := rfl
@[simp] theorem eq_ni (b : Int) : cmpD .eq .none (.int b) = some false := rfl
@[simp] theorem isT (b : Bool) : cmpD .is (.bool b) (.bool true) = some b := by cases b <;> rfl
@[simp] theorem isF (b : Bool) : cmpD .is (.bool b) (.bool false) = some (!b) := by cases b <;> rfl
@[simp] theorem isnT' (b : Bool) : cmpD .isn (.bool b) (.bool true) = some (!b) := by cases b <;> rfl
@[simp] theorem isN_i (b : Int) : cmpD .is (.int b) .none = some false := rfl
@[simp] theorem isN_n : cmpD .is .none .none = some true := rfl
@[simp] theorem isnN_i (b : Int) : cmpD .isn (.int b) .none = some true := rfl
@[simp] theorem isnN_n : cmpD .isn .none .none = some false := rfl
@[simp] theorem isnN_t (b : List PyData) : cmpD .isn (.tuple b) .none = some true := rfl
@[simp] theorem isN_t (b : List PyData) : cmpD .is (.tuple b) .none = some false := rfl
@[simp] theorem in_ss (a b : Str) : cmpD .isin (.str a) (.str b) = some (strIn a b) := rfl
@[simp] theorem len_l (a : List PyData) : biD .len [.list a] = some (.int a.length) := rfl
@[simp] theorem len_t (a : List PyData) : biD .len [.tuple a] = some (.int a.length) := rfl
@[simp] theorem tup_l (a : List PyData) : biD .tuple [.list a] = some (.tuple a) := rfl
@[simp] theorem lst_t (a : List PyData) : biD .list [.tuple a] = some (.list a) := rfl
@[simp] theorem all_l (a : List PyData) : biD .all [.list a] = (bools a).map fun bs => .bool (bs.all id) := rfl
@[simp] theorem any_l (a : List PyData) : biD .any [.list a] = (bools a).map fun bs => .bool (bs.any id) := rfl
@[simp] theorem max_ii (i j : Int) : biD .max [.int i, .int j] = some (.int (if j > i then j else i)) := rfl
@[simp] theorem min_ii (i j : Int) : biD .min [.int i, .int j] = some (.int (if j < i then j else i)) := rfl
@[simp] theorem int_i (i : Int) : biD .int [.int i] = some (.int i) := rfl
@[simp] theorem idx_t (a : List PyData) (i : Int) : idxD (.tuple a) (.int i) = (ixAt a.length i).bind fun j => a[j]? := rfl
@[simp] theorem idx_l (a : List PyData) (i : Int) : idxD (.list a) (.int i) = (ixAt a.length i).bind fun j => a[j]? := rfl
@[simp] theorem sli_t (a : List PyData) (l h : Option Int) : sliD (.tuple a) l h = some (.tuple (cutL a l h)) := rfl
@[simp] theorem sli_l (a : List PyData) (l h : Option Int) : sliD (.list a) l h = some (.list (cutL a l h)) := rfl
@[simp] theorem out_d (x : PyData) : outD lo (.rt (.d x) S) = .d x := rfl
@[simp] theorem out_nx : outD lo (.nx env S) = .d .none := rfl
@[simp] theorem out_ex (c : String) : outD lo (.ex c env S) = .ex c := rfl
theorem out_r {n : Nat} {xs : List PyData} (h : S[n]? = some (.lst xs)) (hl : lo ≤ n) : outD lo (.rt (.r n) S) = .fresh xs := by
  simp [outD, hl, h]
@[simp] theorem aug_add (a b : Int) : augD .add (.int a) (.int b) = some (.int (a + b)) := rfl
@[simp] theorem aug_sub (a b : Int) : augD .sub (.int a) (.int b) = some (.int (a - b)) := rfl
end
/-- the frame's own last list -/
@[simp] theorem lstAt_last {S : Sto} {env : Env} {i : Nat} {xs : List PyData} (h : env[i]? = some (some (.r S.length))) : lstAt S.length env (S ++ [.lst xs]) i = some (S.length, xs) := by
  simp [lstAt, h]
@[simp] theorem pushIf_last {S : Sto} {env : Env} {xs ys : List PyData} (h : xs.length + ys.length ≤ LIM) : pushIf env (S ++ [.lst xs]) ys (S.length, xs) = .nx env (S ++ [.lst (xs ++ ys)]) := by
  simp [pushIf, h]
section
variable {c : Prop} [Decidable c]
@[simp] theorem ite_ok {α : Type} (a b : α) (S : Sto) : (if c then Res.ok a S else Res.ok b S) = .ok (if c then a else b) S := by split <;> rfl
@[simp] theorem ite_d (a b : PyData) : (if c then Wd.d a else Wd.d b) = .d (if c then a else b) := by split <;> rfl
@[simp] theorem ite_bool (a b : Bool) : (if c then PyData.bool a else PyData.bool b) = .bool (if c then a else b) := by split <;> rfl
@[simp] theorem ite_int (a b : Int) : (if c then PyData.int a else PyData.int b) = .int (if c then a else b) := by split <;> rfl
@[simp] theorem ite_str (a b : Str) : (if c then PyData.str a else PyData.str b) = .str (if c then a else b) := by split <;> rfl
@[simp] theorem ite_list (a b : List PyData) : (if c then PyData.list a else PyData.list b) = .list (if c then a else b) := by split <;> rfl
@[simp] theorem ite_tuple (a b : List PyData) : (if c then PyData.tuple a else PyData.tuple b) = .tuple (if c then a else b) := by split <;> rfl
@[simp] theorem ite_some' {α : Type} (a b : α) : (if c then some a else some b) = some (if c then a else b) := by split <;> rfl
@[simp] theorem ite_cr (a b : PyData) : (if c then Cr.d a else Cr.d b) = .d (if c then a else b) := by split <;> rfl
@[simp] theorem ite_out (a b : Rs) (lo : Nat) : outD lo (if c then a else b) = if c then outD lo a else outD lo b := by split <;> rfl
end
/-! ### loops and comprehensions over lists of a form -/
theorem comp_map {α : Type} {f : PyData → Sto → Res (Option PyData)} {enc : α → PyData} (g : α → Option PyData) : ∀ (xs : List α) (S : Sto), (∀ x ∈ xs, f (enc x) S = .ok (g x) S) → compGo f (xs.map enc) S = .ok (xs.filterMap g) S
  | [], S, _ => rfl
  | x :: xs, S, h => by
    simp only [List.map_cons, compGo, h x (List.mem_cons_self ..), bind_ok, comp_map g xs S fun y hy => h y (List.mem_cons_of_mem _ hy), List.filterMap_cons]
    cases g x <;> rfl
theorem forGo_inv {α β : Type} {step : PyData → Env → Sto → Rs} {enc : α → PyData} (f : β → α → β) (Inv : β → Env → Sto → Prop) : ∀ (xs : List α) (b : β) (env : Env) (S : Sto), Inv b env S →
    (∀ b x env S, x ∈ xs → Inv b env S → ∃ env' S', step (enc x) env S = .nx env' S' ∧ Inv (f b x) env' S') → ∃ env' S', forGo step (xs.map enc) env S = .nx env' S' ∧ Inv (xs.foldl f b) env' S'
  | [], b, env, S, h, _ => ⟨env, S, rfl, h⟩
  | x :: xs, b, env, S, h, hs => by
    obtain ⟨env1, S1, e1, h1⟩ := hs b x env S (List.mem_cons_self ..) h
    obtain ⟨env2, S2, e2, h2⟩ := forGo_inv f Inv xs (f b x) env1 S1 h1 fun b y env S hy => hs b y env S (List.mem_cons_of_mem _ hy)
    refine ⟨env2, S2, ?_, h2⟩
    simp only [List.map_cons, forGo, e1, e2]
theorem forGo_pre {α : Type} {step : PyData → Env → Sto → Rs} {enc : α → PyData} (Inv : List α → Env → Sto → Prop) (xs : List α) (env : Env) (S : Sto) (h0 : Inv [] env S)
    (hs : ∀ pre x post env S, xs = pre ++ x :: post → Inv pre env S → ∃ env' S', step (enc x) env S = .nx env' S' ∧ Inv (pre ++ [x]) env' S') : ∃ env' S', forGo step (xs.map enc) env S = .nx env' S' ∧ Inv xs env' S' := by
  have key : ∀ (post pre : List α) (env : Env) (S : Sto), xs = pre ++ post → Inv pre env S → ∃ env' S', forGo step (post.map enc) env S = .nx env' S' ∧ Inv xs env' S' := by
    intro post
    induction post with
    | nil => intro pre env S e h; exact ⟨env, S, rfl, by rw [e, List.append_nil]; exact h⟩
    | cons x post ih =>
      intro pre env S e h
      obtain ⟨env1, S1, e1, h1⟩ := hs pre x post env S e h
      obtain ⟨env2, S2, e2, h2⟩ := ih (pre ++ [x]) env1 S1 (by rw [e]; simp) h1
      refine ⟨env2, S2, ?_, h2⟩
      simp only [List.map_cons, forGo, e1, e2]
  exact key xs [] env S rfl h0
/-- a loop that puts something behind the frame's own last list at each turn -/
theorem forGo_acc {α : Type} {step : PyData → Env → Sto → Rs} {enc : α → PyData} {fixed : Env} {j : Nat} {S : Sto} (g : α → List PyData) : ∀ (xs : List α) (bound : Nat) (acc : List PyData) (junk : Env), (∀ x ∈ xs, (g x).length ≤ 1) → acc.length + xs.length ≤ bound → junk.length = j →
    (∀ x ∈ xs, ∀ (acc : List PyData) (junk : Env), junk.length = j → acc.length + 1 ≤ bound → ∃ junk' : Env, step (enc x) (fixed ++ junk) (S ++ [.lst acc]) = .nx (fixed ++ junk') (S ++ [.lst (acc ++ g x)]) ∧ junk'.length = j) →
    ∃ junk' : Env, forGo step (xs.map enc) (fixed ++ junk) (S ++ [.lst acc]) = .nx (fixed ++ junk') (S ++ [.lst (acc ++ xs.flatMap g)]) ∧ junk'.length = j
  | [], _, acc, junk, _, _, hj, _ => ⟨junk, by simp [forGo], hj⟩
  | x :: xs, bound, acc, junk, hg, hb, hj, hs => by
    obtain ⟨j1, e1, l1⟩ := hs x (List.mem_cons_self ..) acc junk hj (by simp at hb; omega)
    have := hg x (List.mem_cons_self ..)
    obtain ⟨j2, e2, l2⟩ := forGo_acc g xs bound (acc ++ g x) j1 (fun y hy => hg y (List.mem_cons_of_mem _ hy)) (by simp at hb ⊢; omega) l1 fun y hy => hs y (List.mem_cons_of_mem _ hy)
    refine ⟨j2, ?_, l2⟩
    simp only [List.map_cons, forGo, e1, e2]
    simp
theorem lstAt_at {lo : Nat} {env : Env} {S : Sto} {i n : Nat} {xs : List PyData} (h : env[i]? = some (some (.r n))) (hl : lo ≤ n) (hS : S[n]? = some (.lst xs)) : lstAt lo env S i = some (n, xs) := by
  simp [lstAt, h, hl, hS]
theorem pushIf_at {env : Env} {S : Sto} {n : Nat} {xs ys : List PyData} (h : xs.length + ys.length ≤ LIM) : pushIf env S ys (n, xs) = .nx env (S.set n (.lst (xs ++ ys))) := by
  simp [pushIf, h]
theorem mid_get (S ex : Sto) (x : So) : (S ++ x :: ex)[S.length]? = some x := by simp
theorem mid_set (S ex : Sto) (x y : So) : (S ++ x :: ex).set S.length y = S ++ y :: ex := by simp
theorem comp_all {f : PyData → Sto → Res (Option PyData)} (g : PyData → Option PyData) : ∀ (xs : List PyData) (S : Sto), (∀ x ∈ xs, f x S = .ok (g x) S) → compGo f xs S = .ok (xs.filterMap g) S := fun xs S h => by
  have := comp_map (f := f) (enc := id) g xs S h
  simpa using this
theorem intsOf_map {α : Type} (f : α → Int) : ∀ xs : List α, intsOf (xs.map fun x => .int (f x)) = some (xs.map f)
  | [] => rfl
  | x :: xs => by simp [intsOf, intsOf_map f xs]
theorem boolsOf_map {α : Type} (f : α → Bool) : ∀ xs : List α, bools (xs.map fun x => .bool (f x)) = some (xs.map f)
  | [] => rfl
  | x :: xs => by simp [bools, boolsOf_map f xs]
theorem fm_map {α β : Type} (f : α → β) (xs : List α) : xs.filterMap (fun x => some (f x)) = xs.map f := by
  induction xs with
  | nil => rfl
  | cons x xs ih => simp [ih]
end Rf
namespace Rf
open PySem
/-! ### the parts -/
structure Tm where
  pay : Str
  days : Int
  kinds : Str
  ren : Str
  cl : Int
  sale : Bool
def Tm.e (t : Tm) : PyData := .tuple [.str t.pay, .int t.days, .str t.kinds, .str t.ren, .int t.cl, .bool t.sale]
def lifeE (l : Str × Int) : PyData := .tuple [.str l.1, .int l.2]
structure Pt where
  price : Int
  lives : List (Str × Int)
  most : Int
  terms : List Tm
def Pt.e (p : Pt) : PyData := .tuple [.int p.price, .tuple (p.lives.map lifeE), .int p.most, .tuple (p.terms.map Tm.e)]
abbrev Row := Int × Int
def rowE (r : Row) : PyData := .tuple [.int r.1, .int r.2]
abbrev St := Int × List Row
def stE (s : St) : PyData := .tuple [.int s.1, .tuple (s.2.map rowE)]
def maxI : List Int → Int
  | [] => 0
  | a :: r => maxL a r
def gage (p : Pt) : Int := if 0 < p.most then p.most else maxI (p.lives.map (·.2))
section
variable {O : Orc} {fu : Nat} {S : Sto}
theorem r_greatest_age {p : Pt} (hl : p.lives ≠ []) : runD O fu d_greatest_age [.d p.e] S = .d (.int (gage p)) := by
  simp only [gage]
  by_cases h : 0 < p.most
  · simp [runD, d_greatest_age, b_greatest_age, Pt.e, h]
  · simp [runD, d_greatest_age, b_greatest_age, Pt.e, h, ev_comp]
    rw [comp_map (enc := lifeE) (fun l => some (.int l.2)) _ _ (by intro l _; simp [compF, lifeE])]
    rw [fm_map]
    simp [biD, intsOf_map]
    cases hq : p.lives with
    | nil => exact absurd hq hl
    | cons l ls => simp [maxI]
end
end Rf
namespace Rf
open PySem
theorem ixAt_nat {n m : Nat} (h : m < n) : ixAt n (m : Int) = some m := by
  unfold ixAt
  rw [if_pos (by omega), if_pos (by omega)]; simp
theorem cutL_pre (xs : List PyData) (n : Nat) : cutL xs none (some (n : Int)) = xs.take n := by
  have e1 : clipI xs.length 0 none = 0 := rfl
  have e2 : clipI xs.length xs.length (some (n : Int)) = min n xs.length := by
    show (if (n : Int) < 0 then max ((n : Int) + (xs.length : Int)) 0 else min (n : Int) (xs.length : Int)).toNat = _
    rw [if_neg (by omega)]; omega
  rw [cutL, e1, e2]
  simp
theorem cutL_suf (xs : List PyData) (n : Nat) : cutL xs (some (n : Int)) none = xs.drop n := by
  have e1 : clipI xs.length xs.length none = xs.length := rfl
  have e2 : clipI xs.length 0 (some (n : Int)) = min n xs.length := by
    show (if (n : Int) < 0 then max ((n : Int) + (xs.length : Int)) 0 else min (n : Int) (xs.length : Int)).toNat = _
    rw [if_neg (by omega)]; omega
  rw [cutL, e1, e2]
  by_cases h : n ≤ xs.length
  · rw [Nat.min_eq_left h, List.take_of_length_le (by simp)]
  · rw [Nat.min_eq_right (by omega)]
    simp
    omega
theorem str_eq (a b : Str) : PyData.eqv (.str a) (.str b) = (a == b) := by simp [PyData.eqv]
def strOkB (x : Str) : Bool := okD (.str x)
theorem eq_ss {a b : Str} (ha : okD (.str a) = true) (hb : okD (.str b) = true) : cmpD .eq (.str a) (.str b) = some (a == b) := by
  show (if (okD (.str a) && okD (.str b)) = true then some (PyData.eqv (.str a) (.str b)) else none) = _
  rw [ha, hb, str_eq]; rfl
theorem ne_ss {a b : Str} (ha : okD (.str a) = true) (hb : okD (.str b) = true) : cmpD .ne (.str a) (.str b) = some (!(a == b)) := by
  show (if (okD (.str a) && okD (.str b)) = true then some (!PyData.eqv (.str a) (.str b)) else none) = _
  rw [ha, hb, str_eq]; rfl
theorem ok_empty : okD (.str (Str.ofString "")) = true := by decide +kernel
theorem ok_anew : okD (.str (Str.ofString "anew")) = true := by decide +kernel
abbrev anewS : Str := Str.ofString "anew"
abbrev noS : Str := Str.ofString ""
/-! ### the days, as functions -/
def fresh (t : Tm) : Row := (t.days, if t.cl = 0 then -1 else t.cl)
def newS (p : Pt) : St := (0, p.terms.map fresh)
def evts (p : Pt) (a : Int) : List Str := (if p.most = 0 ∨ a < p.most then [noS] else []) ++ (p.lives.filter fun l => decide (l.2 ≤ a)).map (·.1)
def can (t : Tm) (r : Row) (k : Str) : Bool := decide (0 < r.1) && !(r.2 == 0) && strIn k t.kinds
def able (p : Pt) (s : St) (k : Str) : List Nat := (List.zipIdx (p.terms.zip s.2)).filterMap fun x => if can x.1.1 x.1.2 k then some x.2 else none
def optE : Option Nat → PyData
  | none => .none
  | some n => .int n
def claimRow (t : Tm) (r : Row) : Row := (if t.ren == anewS then t.days else r.1, if r.2 == -1 then r.2 else r.2 - 1)
def rowsClaim (p : Pt) (rs : List Row) (n : Nat) : List Row := match p.terms[n]?, rs[n]? with
  | some t, some r => rs.take n ++ [claimRow t r] ++ rs.drop (n + 1)
  | _, _ => rs
def rowsSale (p : Pt) (rs : List Row) : List Row := (p.terms.zip rs).map fun x => if x.1.sale then fresh x.1 else x.2
def ageRow (r : Row) : Row := (if r.1 - 1 > 0 then r.1 - 1 else 0, r.2)
def endDay (p : Pt) (a : Int) (rs : List Row) : St := (if gage p < a + 1 then gage p else a + 1, rs.map ageRow)
def fault (p : Pt) (s : St) : Option Nat → St
  | none => endDay p 0 (rowsSale p s.2)
  | some n => endDay p 0 (rowsClaim p s.2 n)
def first (p : Pt) (s : St) (k : Str) : Option Nat := (able p s k).head?
def step (p : Pt) (s : St) (e : Str) : St := if e == noS then endDay p s.1 s.2 else fault p s (first p s e)
def paid (p : Pt) (s : St) (e : Str) : Int := if !(e == noS) && (first p s e).isNone then p.price else 0
/-- small enough for the machine -/
structure Small (p : Pt) : Prop where
  lives : p.lives.length ≤ 3
  live : p.lives ≠ []
  terms : p.terms.length ≤ 3
  kinds : ∀ l ∈ p.lives, okD (.str l.1) = true
  rens : ∀ t ∈ p.terms, okD (.str t.ren) = true
theorem enumL_map {α : Type} (f : α → PyData) : ∀ (k : Nat) (xs : List α), enumL k (xs.map f) = (List.zipIdx xs k).map fun x => .tuple [.int x.2, f x.1]
  | _, [] => rfl
  | k, x :: xs => by simp [enumL, enumL_map f (k + 1) xs]
theorem zipL_map {α β : Type} (f : α → PyData) (g : β → PyData) : ∀ (xs : List α) (ys : List β), zipL (xs.map f) (ys.map g) = (xs.zip ys).map fun x => .tuple [f x.1, g x.2]
  | [], ys => by cases ys <;> rfl
  | x :: xs, [] => rfl
  | x :: xs, y :: ys => by simp [zipL, zipL_map f g xs ys]
section
variable {O : Orc} {fu : Nat} {S : Sto}
theorem r_fresh_row (t : Tm) : runD O fu d_fresh_row [.d t.e] S = .d (rowE (fresh t)) := by
  by_cases h : t.cl = 0 <;> simp [runD, d_fresh_row, b_fresh_row, Tm.e, rowE, fresh, h, g_UNLIMITED]
theorem r_fresh_state (p : Pt) (h1 : ∀ t S, O "fresh_row" [.d (Tm.e t)] S = .d (rowE (fresh t))) : runD O fu d_fresh_state [.d p.e] S = .d (stE (newS p)) := by
  simp [runD, d_fresh_state, b_fresh_state, Pt.e, ev_comp]
  rw [comp_map (enc := Tm.e) (fun t => some (rowE (fresh t))) _ _ (by intro t _; simp [compF, h1]), fm_map]
  simp [stE, newS]
theorem ev_fm (p : Pt) (a : Int) : p.lives.filterMap (fun l => if l.2 ≤ a then some (PyData.str l.1) else none) = ((p.lives.filter fun l => decide (l.2 ≤ a)).map (·.1)).map .str := by
  induction p.lives with
  | nil => rfl
  | cons l ls ih => by_cases h : l.2 ≤ a <;> simp [List.filterMap_cons, List.filter_cons, h, ih]
theorem r_possible_events {p : Pt} (sm : Small p) (s : St) : runD O fu d_possible_events [.d p.e, .d (stE s)] S = .d (.list ((evts p s.1).map .str)) := by
  have hl : ((p.lives.filter fun l => decide (l.2 ≤ s.1)).map (·.1)).length ≤ 3 := by
    rw [List.length_map]; exact Nat.le_trans (List.length_filter_le _ _) sm.lives
  have h3 : (p.lives.filter fun l => decide (l.2 ≤ s.1)).length + 1 ≤ LIM := by rw [List.length_map] at hl; unfold LIM; omega
  simp [runD, d_possible_events, b_possible_events, Pt.e, stE, ev_comp]
  rw [comp_map (enc := lifeE) (fun l => if l.2 ≤ s.1 then some (.str l.1) else none) _ _ (by intro l _; by_cases h : l.2 ≤ s.1 <;> simp [compF, lifeE, h]), ev_fm]
  rw [List.length_map] at hl
  have h4 : (p.lives.filter fun l => decide (l.2 ≤ s.1)).length ≤ LIM := by omega
  have h5 : 1 + (p.lives.filter fun l => decide (l.2 ≤ s.1)).length ≤ LIM := by omega
  by_cases h : p.most = 0 ∨ s.1 < p.most <;> simp [evts, h, h4, h5]
theorem r_can_be_asked (t : Tm) (r : Row) (k : Str) : runD O fu d_can_be_asked [.d t.e, .d (rowE r), .d (.str k)] S = .d (.bool (can t r k)) := by
  by_cases h1 : 0 < r.1
  · by_cases h2 : r.2 = 0 <;> simp [runD, d_can_be_asked, b_can_be_asked, Tm.e, rowE, can, h1, h2]
  · simp [runD, d_can_be_asked, b_can_be_asked, Tm.e, rowE, can, h1]
theorem r_askable (p : Pt) (s : St) (k : Str) (h1 : ∀ t r k S, O "can_be_asked" [.d (Tm.e t), .d (rowE r), .d (.str k)] S = .d (.bool (can t r k))) : runD O fu d_askable [.d p.e, .d (stE s), .d (.str k)] S = .d (.list ((able p s k).map fun n => .int (n : Nat))) := by
  simp [runD, d_askable, b_askable, Pt.e, stE, ev_comp, zipL_map, enumL_map]
  rw [comp_map (enc := fun x : (Tm × Row) × Nat => .tuple [.int x.2, .tuple [Tm.e x.1.1, rowE x.1.2]]) (fun x => if can x.1.1 x.1.2 k then some (.int (x.2 : Nat)) else none) _ _ (by intro x _; by_cases h : can x.1.1 x.1.2 k = true <;> simp [compF, h1, h])]
  simp [able, List.map_filterMap]
theorem optE_some (n : Nat) : optE (some n) = .int n := rfl
theorem optE_none : optE none = .none := rfl
theorem r_number_by_order (p : Pt) (s : St) (k : Str) (h1 : ∀ S, O "askable" [.d p.e, .d (stE s), .d (.str k)] S = .d (.list ((able p s k).map fun n => .int (n : Nat)))) :
    runD O fu d_number_by_order [.d p.e, .d (stE s), .d (.str k)] S = .d (optE (first p s k)) := by
  cases h : able p s k with
  | nil => simp [runD, d_number_by_order, b_number_by_order, h1, h, first, optE]
  | cons n ns =>
    have hx : ixAt (ns.length + 1) 0 = some 0 := ixAt_nat (n := ns.length + 1) (m := 0) (by omega)
    have hp : (0 : Int) < (ns.length : Int) + 1 := by omega
    simp [runD, d_number_by_order, b_number_by_order, h1, h, first, optE, hx, hp]
theorem r_row_after_claim {t : Tm} (ht : okD (.str t.ren) = true) (r : Row) : runD O fu d_row_after_claim [.d t.e, .d (rowE r)] S = .d (rowE (claimRow t r)) := by
  have hq := eq_ss ht ok_anew
  by_cases h1 : t.ren = anewS
  · rw [h1] at hq
    by_cases h2 : r.2 = -1 <;> simp [runD, d_row_after_claim, b_row_after_claim, Tm.e, rowE, claimRow, hq, h1, h2, g_UNLIMITED]
  · by_cases h2 : r.2 = -1 <;> simp [runD, d_row_after_claim, b_row_after_claim, Tm.e, rowE, claimRow, hq, h1, h2, g_UNLIMITED]
theorem r_rows_after_claim {p : Pt} (sm : Small p) {rs : List Row} (hl : rs.length = p.terms.length) {n : Nat} (hn : n < rs.length) (h1 : ∀ t r S, t ∈ p.terms → O "row_after_claim" [.d (Tm.e t), .d (rowE r)] S = .d (rowE (claimRow t r))) :
    runD O fu d_rows_after_claim [.d p.e, .d (.tuple (rs.map rowE)), .d (.int n)] S = .d (.tuple ((rowsClaim p rs n).map rowE)) := by
  have hn2 : n < p.terms.length := by omega
  have e1 : p.terms[n]? = some p.terms[n] := List.getElem?_eq_getElem hn2
  have e2 : rs[n]? = some rs[n] := List.getElem?_eq_getElem hn
  have x1 : ixAt p.terms.length (n : Int) = some n := ixAt_nat hn2
  have x2 : ixAt rs.length (n : Int) = some n := ixAt_nat hn
  have m1 : p.terms[n] ∈ p.terms := List.getElem_mem hn2
  have c1 : ((n : Int) + 1) = ((n + 1 : Nat) : Int) := by omega
  have h3 := sm.terms
  have b1 : min n rs.length + 1 ≤ LIM := by unfold LIM; omega
  have b2 : min n rs.length + 1 + (rs.length - (n + 1)) ≤ LIM := by unfold LIM; omega
  simp [runD, d_rows_after_claim, b_rows_after_claim, Pt.e, h1 _ _ _ m1, e1, e2, x1, x2, hn, hn2, cutL_pre, b1]
  rw [c1, cutL_suf]
  simp [b2, rowsClaim, e1, e2, List.map_take, List.map_drop]
theorem r_rows_after_sale {p : Pt} (sm : Small p) (rs : List Row) (h1 : ∀ t S, O "fresh_row" [.d (Tm.e t)] S = .d (rowE (fresh t))) :
    runD O fu d_rows_after_sale [.d p.e, .d (.tuple (rs.map rowE))] S = .d (.tuple ((rowsSale p rs).map rowE)) := by
  have hz : (p.terms.zip rs).length ≤ 3 := by rw [List.length_zip]; have := sm.terms; omega
  simp [runD, d_rows_after_sale, b_rows_after_sale, Pt.e, exC_loop, zipL_map]
  generalize hF : forGo _ _ _ _ = F
  obtain ⟨env', S', e, hS, a, b, c, d, e', f, g, h, hI⟩ : ∃ env' S', F = .nx env' S' ∧ S' = S ++ [.lst ((p.terms.zip rs).map fun x => rowE (if x.1.sale then fresh x.1 else x.2))] ∧ ∃ a b c d e f g h, env' = [some (.d p.e), some (.d (.tuple (rs.map rowE))), some (.d (.int p.price)), some (.d (.tuple (p.lives.map lifeE))), some (.d (.int p.most)), some (.d (.tuple (p.terms.map Tm.e))), some (.r S.length), a, b, c, d, e, f, g, h] := by
    rw [← hF]
    refine forGo_pre (α := Tm × Row) (fun pre env' S' => S' = S ++ [.lst (pre.map fun x => rowE (if x.1.sale then fresh x.1 else x.2))] ∧ ∃ a b c d e f g h, env' = [some (.d p.e), some (.d (.tuple (rs.map rowE))), some (.d (.int p.price)), some (.d (.tuple (p.lives.map lifeE))), some (.d (.int p.most)), some (.d (.tuple (p.terms.map Tm.e))), some (.r S.length), a, b, c, d, e, f, g, h]) _ _ _ ⟨rfl, _, _, _, _, _, _, _, _, rfl⟩ ?_
    rintro pre x post env S1 hx ⟨rfl, a, b, c, d, e, f, g, h, rfl⟩
    have hl : pre.length + 1 ≤ LIM := by rw [hx] at hz; simp at hz; unfold LIM; omega
    have hl2 : (pre.map fun x => rowE (if x.1.sale then fresh x.1 else x.2)).length + 1 ≤ LIM := by simpa using hl
    have hg : (if x.1.sale then rowE (fresh x.1) else rowE x.2) = rowE (if x.1.sale then fresh x.1 else x.2) := by split <;> rfl
    rw [List.map_append, List.map_singleton]
    generalize pre.map (fun x => rowE (if x.1.sale then fresh x.1 else x.2)) = acc at hl2
    apply Exists.intro; apply Exists.intro; constructor
    · have hl3 : acc.length + [rowE (if x.1.sale then fresh x.1 else x.2)].length ≤ LIM := by simpa using hl2
      simp [loopF, Tm.e] 
      have h1' := h1 x.1
      simp only [Tm.e] at h1'
      simp [h1', hg, pushIf_last hl3]
      exact ⟨rfl, rfl⟩
    · exact ⟨rfl, _, _, _, _, _, _, _, _, rfl⟩
  subst e hS hI
  simp [rowsSale]
end
end Rf
namespace Rf
open PySem
section
variable {O : Orc} {fu : Nat} {S : Sto}
theorem r_state_at_end_of_day (p : Pt) (a : Int) (rs : List Row) (h1 : ∀ S, O "greatest_age" [.d p.e] S = .d (.int (gage p))) :
    runD O fu d_state_at_end_of_day [.d p.e, .d (.int a), .d (.tuple (rs.map rowE))] S = .d (stE (endDay p a rs)) := by
  simp [runD, d_state_at_end_of_day, b_state_at_end_of_day, h1, ev_comp]
  rw [comp_map (enc := rowE) (fun r => some (rowE (ageRow r))) _ _ (by intro r _; simp [compF, rowE, ageRow]), fm_map]
  simp [stE, endDay]
/-- a state's rows are as many as the terms -/
def Fits (p : Pt) (s : St) : Prop := s.2.length = p.terms.length
theorem first_lt {p : Pt} {s : St} {k : Str} {n : Nat} (h : first p s k = some n) : n < p.terms.length ∧ n < s.2.length := by
  have hm : n ∈ able p s k := List.mem_of_head? h
  obtain ⟨x, hx, e⟩ := List.mem_filterMap.mp hm
  split at e
  · cases e
    have := List.mem_zipIdx hx
    have h2 := this.2.1
    rw [List.length_zip] at h2
    omega
  · cases e
theorem r_state_after_fault {p : Pt} (sm : Small p) {s : St} (hf : Fits p s) {n : Option Nat} (hn : ∀ m, n = some m → m < s.2.length)
    (h1 : ∀ rs S, O "rows_after_sale" [.d p.e, .d (.tuple (List.map rowE rs))] S = .d (.tuple ((rowsSale p rs).map rowE)))
    (h2 : ∀ rs n S, rs.length = p.terms.length → n < rs.length → O "rows_after_claim" [.d p.e, .d (.tuple (List.map rowE rs)), .d (.int (n : Nat))] S = .d (.tuple ((rowsClaim p rs n).map rowE)))
    (h3 : ∀ a rs S, O "state_at_end_of_day" [.d p.e, .d (.int a), .d (.tuple (List.map rowE rs))] S = .d (stE (endDay p a rs))) :
    runD O fu d_state_after_fault [.d p.e, .d (stE s), .d (optE n)] S = .d (stE (fault p s n)) := by
  cases n with
  | none => simp [runD, d_state_after_fault, b_state_after_fault, stE, optE, h1, h3, fault]
  | some m =>
    have hm := hn m rfl
    simp [runD, d_state_after_fault, b_state_after_fault, stE, optE, h2 _ _ _ hf hm, h3, fault]
theorem r_state_after_quiet {p : Pt} {s : St}
    (h1 : ∀ a rs S, O "state_at_end_of_day" [.d p.e, .d (.int a), .d (.tuple (List.map rowE rs))] S = .d (stE (endDay p a rs))) :
    runD O fu d_state_after_quiet [.d p.e, .d (stE s)] S = .d (stE (endDay p s.1 s.2)) := by
  simp [runD, d_state_after_quiet, b_state_after_quiet]
  simp [stE, h1]
/-- a day, the told one pays -/
def dayN (p : Pt) (s : St) (e : Str) (n : Option Nat) : St := if e == noS then endDay p s.1 s.2 else fault p s n
theorem r_state_after_day {p : Pt} {s : St} {e : Str} (he : okD (.str e) = true) {n : Option Nat}
    (h1 : ∀ S, O "state_after_quiet" [.d p.e, .d (stE s)] S = .d (stE (endDay p s.1 s.2)))
    (h3 : ∀ S, (e == noS) = false → O "state_after_fault" [.d p.e, .d (stE s), .d (optE n)] S = .d (stE (fault p s n))) :
    runD O fu d_state_after_day [.d p.e, .d (stE s), .d (.str e), .d (optE n)] S = .d (stE (dayN p s e n)) := by
  have hq := eq_ss he ok_empty
  by_cases hc : e = noS
  · rw [hc] at hq
    simp [runD, d_state_after_day, b_state_after_day, hq, hc, dayN, h1]
  · have hfl : (e == noS) = false := by simpa using hc
    have h4 := fun S => h3 S hfl
    simp [runD, d_state_after_day, b_state_after_day, hq, hc, dayN, h4]
theorem r_state_by_order {p : Pt} {s : St} {e : Str} (he : okD (.str e) = true)
    (h2 : ∀ k S, O "number_by_order" [.d p.e, .d (stE s), .d (.str k)] S = .d (optE (first p s k)))
    (h3 : ∀ n S, ((e == noS) = false → ∀ m, n = some m → m < s.2.length) → O "state_after_day" [.d p.e, .d (stE s), .d (.str e), .d (optE n)] S = .d (stE (dayN p s e n))) :
    runD O fu d_state_by_order [.d p.e, .d (stE s), .d (.str e)] S = .d (stE (step p s e)) := by
  have hq := eq_ss he ok_empty
  by_cases hc : e = noS
  · rw [hc] at hq
    have h4 := fun S => h3 none S fun _ m hm => by cases hm
    rw [hc] at h4
    simp only [optE_none] at h4
    simp [runD, d_state_by_order, b_state_by_order, hq, hc, step, h4, dayN]
  · have hfl : (e == noS) = false := by simpa using hc
    have h4 := fun S => h3 (first p s e) S fun _ m hm => (first_lt hm).2
    simp [runD, d_state_by_order, b_state_by_order, hq, hc, step, h2, h4, dayN]
/-! what is a state -/
def isNum (lo hi : Int) : PyData → Bool
  | .int i => decide (lo ≤ i) && decide (i ≤ hi)
  | _ => false
theorem r_is_number (d : PyData) (lo hi : Int) : runD O fu d_is_number [.d d, .d (.int lo), .d (.int hi)] S = .d (.bool (isNum lo hi d)) := by
  cases d with
  | int i => by_cases h : lo ≤ i <;> simp [runD, d_is_number, b_is_number, isNum, isiD, h]
  | bool b => simp [runD, d_is_number, b_is_number, isNum, isiD]
  | none => simp [runD, d_is_number, b_is_number, isNum, isiD]
  | str b => simp [runD, d_is_number, b_is_number, isNum, isiD]
  | list b => simp [runD, d_is_number, b_is_number, isNum, isiD]
  | tuple b => simp [runD, d_is_number, b_is_number, isNum, isiD]
  | dict b => simp [runD, d_is_number, b_is_number, isNum, isiD]
def isTup (lo hi : Int) : PyData → Bool
  | .tuple xs => decide (lo ≤ xs.length) && decide ((xs.length : Int) ≤ hi)
  | _ => false
theorem r_is_tuple (d : PyData) (lo hi : Int) : runD O fu d_is_tuple [.d d, .d (.int lo), .d (.int hi)] S = .d (.bool (isTup lo hi d)) := by
  cases d with
  | tuple xs => by_cases h : lo ≤ (xs.length : Int) <;> simp [runD, d_is_tuple, b_is_tuple, isTup, isiD, h]
  | int i => simp [runD, d_is_tuple, b_is_tuple, isTup, isiD]
  | bool b => simp [runD, d_is_tuple, b_is_tuple, isTup, isiD]
  | none => simp [runD, d_is_tuple, b_is_tuple, isTup, isiD]
  | str b => simp [runD, d_is_tuple, b_is_tuple, isTup, isiD]
  | list b => simp [runD, d_is_tuple, b_is_tuple, isTup, isiD]
  | dict b => simp [runD, d_is_tuple, b_is_tuple, isTup, isiD]
def isRow (t : Tm) : PyData → Bool
  | .tuple [l, c] => isNum 0 t.days l && (if t.cl = 0 then isNum (-1) (-1) c else isNum 0 t.cl c)
  | _ => false
theorem r_is_row (t : Tm) (d : PyData) (h1 : ∀ d a b S, O "is_number" [.d d, .d (.int a), .d (.int b)] S = .d (.bool (isNum a b d))) (h2 : ∀ d a b S, O "is_tuple" [.d d, .d (.int a), .d (.int b)] S = .d (.bool (isTup a b d))) :
    runD O fu d_is_row [.d t.e, .d d] S = .d (.bool (isRow t d)) := by
  by_cases hd : ∃ l c, d = .tuple [l, c]
  · obtain ⟨l, c, rfl⟩ := hd
    by_cases hl : isNum 0 t.days l = true
    · by_cases hc : t.cl = 0 <;> simp [runD, d_is_row, b_is_row, Tm.e, isRow, isTup, h1, h2, hl, hc, g_UNLIMITED]
    · simp [runD, d_is_row, b_is_row, Tm.e, isRow, isTup, h1, h2, hl]
  · have hf : isTup 2 2 d = false := by
      cases d <;> try rfl
      rename_i xs
      match xs with
      | [] => rfl
      | [_] => rfl
      | [l, c] => exact absurd ⟨l, c, rfl⟩ hd
      | _ :: _ :: _ :: r => simp [isTup]; omega
    have hr : isRow t d = false := by
      cases d <;> try rfl
      rename_i xs
      match xs with
      | [] => rfl
      | [_] => rfl
      | [l, c] => exact absurd ⟨l, c, rfl⟩ hd
      | _ :: _ :: _ :: r => rfl
    simp [runD, d_is_row, b_is_row, Tm.e, h2, hf, hr]
def isRows (p : Pt) : PyData → Bool
  | .tuple xs => decide (xs.length = p.terms.length) && ((p.terms.zip xs).all fun x => isRow x.1 x.2)
  | _ => false
theorem zipL_left {α : Type} (f : α → PyData) : ∀ (xs : List α) (ys : List PyData), zipL (xs.map f) ys = (xs.zip ys).map fun x => .tuple [f x.1, x.2]
  | [], ys => by cases ys <;> rfl
  | x :: xs, [] => rfl
  | x :: xs, y :: ys => by simp [zipL, zipL_left f xs ys]
theorem r_is_rows (p : Pt) (d : PyData) (h1 : ∀ t d S, O "is_row" [.d (Tm.e t), .d d] S = .d (.bool (isRow t d))) (h2 : ∀ d a b S, O "is_tuple" [.d d, .d (.int a), .d (.int b)] S = .d (.bool (isTup a b d))) :
    runD O fu d_is_rows [.d p.e, .d d] S = .d (.bool (isRows p d)) := by
  cases d with
  | tuple xs =>
    by_cases hl : xs.length = p.terms.length
    · have ht : isTup (p.terms.length : Int) (p.terms.length : Int) (.tuple xs) = true := by simp [isTup, hl]
      simp [runD, d_is_rows, b_is_rows, Pt.e, h2, ht, ev_comp, zipL_left]
      rw [comp_map (enc := fun x : Tm × PyData => .tuple [Tm.e x.1, x.2]) (fun x => some (.bool (isRow x.1 x.2))) _ _ (by intro x _; simp [compF, h1]), fm_map]
      simp [boolsOf_map, isRows, hl, List.all_map, Function.comp_def]
    · have ht : isTup (p.terms.length : Int) (p.terms.length : Int) (.tuple xs) = false := by simp [isTup]; omega
      simp [runD, d_is_rows, b_is_rows, Pt.e, h2, ht, isRows, hl]
  | int i => simp [runD, d_is_rows, b_is_rows, Pt.e, h2, isTup, isRows]
  | bool b => simp [runD, d_is_rows, b_is_rows, Pt.e, h2, isTup, isRows]
  | none => simp [runD, d_is_rows, b_is_rows, Pt.e, h2, isTup, isRows]
  | str b => simp [runD, d_is_rows, b_is_rows, Pt.e, h2, isTup, isRows]
  | list b => simp [runD, d_is_rows, b_is_rows, Pt.e, h2, isTup, isRows]
  | dict b => simp [runD, d_is_rows, b_is_rows, Pt.e, h2, isTup, isRows]
def isSt (p : Pt) : PyData → Bool
  | .tuple [a, r] => isNum 0 (gage p) a && isRows p r
  | _ => false
theorem r_is_state (p : Pt) (d : PyData) (h0 : ∀ S, O "check_part" [.d p.e] S = .d .none) (h1 : ∀ d a b S, O "is_number" [.d d, .d (.int a), .d (.int b)] S = .d (.bool (isNum a b d))) (h2 : ∀ d a b S, O "is_tuple" [.d d, .d (.int a), .d (.int b)] S = .d (.bool (isTup a b d)))
    (h3 : ∀ S, O "greatest_age" [.d p.e] S = .d (.int (gage p))) (h4 : ∀ d S, O "is_rows" [.d p.e, .d d] S = .d (.bool (isRows p d))) : runD O fu d_is_state [.d p.e, .d d] S = .d (.bool (isSt p d)) := by
  by_cases hd : ∃ l c, d = .tuple [l, c]
  · obtain ⟨l, c, rfl⟩ := hd
    by_cases hl : isNum 0 (gage p) l = true <;> simp [runD, d_is_state, b_is_state, h0, isSt, isTup, h1, h2, h3, h4, hl]
  · have hf : isTup 2 2 d = false := by
      cases d <;> try rfl
      rename_i xs
      match xs with
      | [] => rfl
      | [_] => rfl
      | [l, c] => exact absurd ⟨l, c, rfl⟩ hd
      | _ :: _ :: _ :: r => simp [isTup]; omega
    have hr : isSt p d = false := by
      cases d <;> try rfl
      rename_i xs
      match xs with
      | [] => rfl
      | [_] => rfl
      | [l, c] => exact absurd ⟨l, c, rfl⟩ hd
      | _ :: _ :: _ :: r => rfl
    simp [runD, d_is_state, b_is_state, h0, h2, hf, hr]
end
end Rf
namespace Rf
open PySem
/-! ### the days again, as the laws reckon them -/
section
variable {O : Orc} {fu : Nat} {S : Sto}
theorem ix43 (a b c d : PyData) : (ixAt [a, b, c, d].length 3).bind (fun j => [a, b, c, d][j]?) = some d := rfl
theorem e3 (p : Pt) : idxD p.e (.int 3) = some (.tuple (p.terms.map Tm.e)) := rfl
theorem e2 (p : Pt) : idxD p.e (.int 2) = some (.int p.most) := rfl
theorem e1 (p : Pt) : idxD p.e (.int 1) = some (.tuple (p.lives.map lifeE)) := rfl
theorem e0 (p : Pt) : idxD p.e (.int 0) = some (.int p.price) := rfl
theorem t0 (t : Tm) : idxD t.e (.int 0) = some (.str t.pay) := rfl
theorem t1 (t : Tm) : idxD t.e (.int 1) = some (.int t.days) := rfl
theorem t2 (t : Tm) : idxD t.e (.int 2) = some (.str t.kinds) := rfl
theorem t3 (t : Tm) : idxD t.e (.int 3) = some (.str t.ren) := rfl
theorem t4 (t : Tm) : idxD t.e (.int 4) = some (.int t.cl) := rfl
theorem t5 (t : Tm) : idxD t.e (.int 5) = some (.bool t.sale) := rfl
theorem l0 (t : Str × Int) : idxD (lifeE t) (.int 0) = some (.str t.1) := rfl
theorem l1 (t : Str × Int) : idxD (lifeE t) (.int 1) = some (.int t.2) := rfl
theorem s0 (s : St) : idxD (stE s) (.int 0) = some (.int s.1) := rfl
theorem s1 (s : St) : idxD (stE s) (.int 1) = some (.tuple (s.2.map rowE)) := rfl
theorem row_at {rs : List Row} {n : Nat} (h : n < rs.length) : idxD (.tuple (rs.map rowE)) (.int n) = some (rowE rs[n]) := by
  simp [ixAt_nat h, h]
/-- claims within their bound -/
def TmOk (t : Tm) : Prop := 0 ≤ t.cl
theorem r_law_new {p : Pt} (hc : ∀ t ∈ p.terms, 0 ≤ t.cl) : runD O fu d__law_new [.d p.e] S = .d (stE (newS p)) := by
  simp [runD, d__law_new, b__law_new, ev_comp, -idx_t, -idx_l, e3]
  rw [comp_map (enc := Tm.e) (fun t => some (rowE (fresh t))) _ _ (by
    intro t ht
    have := hc t ht
    by_cases h : 0 < t.cl
    · have : ¬ t.cl = 0 := by omega
      simp [compF, -idx_t, -idx_l, t1, t4, h, fresh, rowE, this]
    · have : t.cl = 0 := by omega
      simp [compF, -idx_t, -idx_l, t1, t4, fresh, rowE, this]), fm_map]
  simp [stE, newS]
theorem r_law_last {p : Pt} (hl : p.lives ≠ []) : runD O fu d__law_last [.d p.e] S = .d (.int (gage p)) := by
  simp only [gage]
  by_cases h : 0 < p.most
  · simp [runD, d__law_last, b__law_last, -idx_t, -idx_l, e2, h]
  · simp [runD, d__law_last, b__law_last, -idx_t, -idx_l, e2, e1, h, ev_comp]
    rw [comp_map (enc := lifeE) (fun l => some (.int l.2)) _ _ (by intro l _; simp [compF, -idx_t, -idx_l, l1])]
    rw [fm_map]
    simp [biD, intsOf_map]
    cases hq : p.lives with
    | nil => exact absurd hq hl
    | cons l ls => simp [maxI]
theorem r_law_events {p : Pt} (sm : Small p) (s : St) : runD O fu d__law_events [.d p.e, .d (stE s)] S = .d (.list ((evts p s.1).map .str)) := by
  have hl : (p.lives.filter fun l => decide (l.2 ≤ s.1)).length ≤ 3 := Nat.le_trans (List.length_filter_le _ _) sm.lives
  have h3 : (p.lives.filter fun l => decide (l.2 ≤ s.1)).length + 1 ≤ LIM := by unfold LIM; omega
  have h4 : (p.lives.filter fun l => decide (l.2 ≤ s.1)).length ≤ LIM := by omega
  have h5 : 1 + (p.lives.filter fun l => decide (l.2 ≤ s.1)).length ≤ LIM := by omega
  simp [runD, d__law_events, b__law_events, -idx_t, -idx_l, e2, e1, s0, ev_comp]
  rw [comp_map (enc := lifeE) (fun l => if l.2 ≤ s.1 then some (.str l.1) else none) _ _ (by intro l _; by_cases h : l.2 ≤ s.1 <;> simp [compF, lifeE, h, -idx_t, -idx_l, s0]), ev_fm]
  by_cases h : p.most = 0 ∨ s.1 < p.most <;> simp [evts, h, h4, h5]
/-- the text's body of a loop -/
def lawAbleB : Cs := match b__law_able with
  | .cons _ (.cons (.loop _ _ b) _) => b
  | _ => .nil
def ableAt (s : St) (k : Str) (x : Tm × Nat) : Option Nat := match s.2[x.2]? with
  | some r => if can x.1 r k then some x.2 else none
  | none => none
theorem able_eq {p : Pt} {s : St} (hf : Fits p s) (k : Str) : (List.zipIdx p.terms).filterMap (ableAt s k) = able p s k := by
  have key : ∀ (ts : List Tm) (rs pre : List Row), rs.length = ts.length → s.2 = pre ++ rs → (List.zipIdx ts pre.length).filterMap (ableAt s k) = (List.zipIdx (ts.zip rs) pre.length).filterMap fun x => if can x.1.1 x.1.2 k then some x.2 else none := by
    intro ts
    induction ts with
    | nil => intro rs pre _ _; simp
    | cons t ts ih =>
      intro rs pre hl he
      cases rs with
      | nil => simp at hl
      | cons r rs =>
        have h1 := ih rs (pre ++ [r]) (by simpa using hl) (by rw [he]; simp)
        rw [List.length_append, List.length_singleton] at h1
        have h2 : ableAt s k (t, pre.length) = if can t r k then some pre.length else none := by
          have : s.2[pre.length]? = some r := by rw [he]; simp
          simp [ableAt, this]
        rw [List.zipIdx_cons, List.zip_cons_cons, List.zipIdx_cons, List.filterMap_cons, List.filterMap_cons, h2, h1]
  exact key p.terms s.2 [] hf rfl
theorem zi_lt {p : Pt} {s : St} (hf : Fits p s) {x : Tm × Nat} (hm : x ∈ List.zipIdx p.terms) : ∃ h : x.2 < s.2.length, s.2[x.2]? = some s.2[x.2] := by
  have hz := List.mem_zipIdx hm
  have hlt : x.2 < s.2.length := by have := hz.2.1; unfold Fits at hf; omega
  exact ⟨hlt, List.getElem?_eq_getElem hlt⟩
theorem r_law_able {p : Pt} (sm : Small p) {s : St} (hf : Fits p s) (k : Str) : runD O fu d__law_able [.d p.e, .d (stE s), .d (.str k)] S = .fresh ((able p s k).map fun n => .int (n : Nat)) := by
  obtain ⟨jk, q, hj⟩ := forGo_acc (enc := fun x : Tm × Nat => .tuple [.int x.2, x.1.e]) (step := loopF O fu S.length (.tup [4, 5]) lawAbleB) (fixed := [some (.d p.e), some (.d (stE s)), some (.d (.str k)), some (.r S.length)]) (j := 4) (S := S)
    (fun x => ((ableAt s k x).map fun n => PyData.int (n : Nat)).toList) (List.zipIdx p.terms) 1000 [] [none, none, none, none] (fun x _ => by cases ableAt s k x <;> simp) (by have := sm.terms; simp; omega) rfl (by
      rintro x hm acc junk hj hb
      obtain ⟨hlt, hg⟩ := zi_lt hf hm
      have hr := row_at hlt
      have ha : ableAt s k x = if can x.1 s.2[x.2] k then some x.2 else none := by simp [ableAt, hg]
      rw [ha]
      clear ha hg
      generalize s.2[x.2] = r at hr
      match junk, hj with
      | [a, b, c, d], _ =>
      refine ⟨[some (.d (.int x.2)), some (.d x.1.e), some (.d (.int r.1)), some (.d (.int r.2))], ?_, rfl⟩
      have l0 : acc.length + ([] : List PyData).length ≤ LIM := by simp; unfold LIM; omega
      have l1 : acc.length + [PyData.int (x.2 : Nat)].length ≤ LIM := by simp; unfold LIM; omega
      by_cases h1 : 0 < r.1
      · by_cases h2 : r.2 = 0
        · simp [loopF, lawAbleB, b__law_able, -idx_t, -idx_l, s1, hr, rowE, t2, h1, h2, can, pushIf_last l0]
        · by_cases h3 : strIn k x.1.kinds = true
          · simp [loopF, lawAbleB, b__law_able, -idx_t, -idx_l, s1, hr, rowE, t2, h1, h2, h3, can, pushIf_last l1]
          · simp [loopF, lawAbleB, b__law_able, -idx_t, -idx_l, s1, hr, rowE, t2, h1, h2, h3, can, pushIf_last l0]
      · simp [loopF, lawAbleB, b__law_able, -idx_t, -idx_l, s1, hr, rowE, t2, h1, can, pushIf_last l0])
  have hfm : (List.zipIdx p.terms).flatMap (fun x => ((ableAt s k x).map fun n => PyData.int (n : Nat)).toList) = (able p s k).map fun n => .int (n : Nat) := by
    rw [← able_eq hf]
    induction List.zipIdx p.terms with
    | nil => rfl
    | cons x xs ih =>
      rw [List.flatMap_cons, ih, List.filterMap_cons]
      cases ableAt s k x <;> simp
  rw [hfm] at q
  match jk, hj with
  | [a, b, c, d], _ =>
  simp [lawAbleB, b__law_able] at q
  simp [runD, d__law_able, b__law_able, exC_loop, -idx_t, -idx_l, e3, enumL_map, q]
  exact out_r (by simp) (Nat.le_refl _)
end
end Rf
namespace Rf
open PySem
def mvRow (e : Str) (n : Option Nat) (t : Tm) (i : Nat) (r : Row) : Row :=
  if (e == noS) = true then r
  else if n = none then (if t.sale = true then (t.days, if 0 < t.cl then t.cl else -1) else r)
  else if n = some i then (if (t.ren == anewS) = true then t.days else r.1, if 0 < r.2 then r.2 - 1 else r.2) else r
def moveRow (e : Str) (n : Option Nat) (t : Tm) (i : Nat) (r : Row) : Row := (if 0 < (mvRow e n t i r).1 then (mvRow e n t i r).1 - 1 else 0, (mvRow e n t i r).2)
def moveAt (s : St) (e : Str) (n : Option Nat) (x : Tm × Nat) : Row := match s.2[x.2]? with
  | some r => moveRow e n x.1 x.2 r
  | none => (0, 0)
def lawMove (p : Pt) (s : St) (e : Str) (n : Option Nat) : St :=
  (if gage p < (if (e == noS) = true then s.1 else 0) + 1 then gage p else (if (e == noS) = true then s.1 else 0) + 1, (List.zipIdx p.terms).map (moveAt s e n))
def lawMoveB : Cs := match b__law_move with
  | .cons _ (.cons (.loop _ _ b) _) => b
  | _ => .nil
theorem eq_oi (n : Option Nat) (i : Nat) : cmpD .eq (optE n) (.int i) = some (decide (n = some i)) := by
  cases n with
  | none => simp [optE]
  | some m =>
    simp [optE]
    by_cases h : m = i <;> simp [h]; omega
theorem is_on (n : Option Nat) : cmpD .is (optE n) .none = some n.isNone := by cases n <;> rfl
section
variable {O : Orc} {fu : Nat} {S : Sto}
theorem r_law_move {p : Pt} (sm : Small p) {s : St} (hf : Fits p s) {e : Str} (he : okD (.str e) = true) (n : Option Nat) (h1 : ∀ S, O "_law_last" [.d p.e] S = .d (.int (gage p))) :
    runD O fu d__law_move [.d p.e, .d (stE s), .d (.str e), .d (optE n)] S = .d (stE (lawMove p s e n)) := by
  have q1 := eq_ss he ok_empty
  have q2 := ne_ss he ok_empty
  obtain ⟨jk, q, hj⟩ := forGo_acc (enc := fun x : Tm × Nat => .tuple [.int x.2, x.1.e]) (step := loopF O fu S.length (.tup [6, 7]) lawMoveB) (fixed := [some (.d p.e), some (.d (stE s)), some (.d (.str e)), some (.d (optE n)), some (.r S.length), some (.d (.int (if (e == noS) = true then s.1 else 0)))]) (j := 4) (S := S)
    (fun x => [rowE (moveAt s e n x)]) (List.zipIdx p.terms) 1000 [] [none, none, none, none] (fun x _ => by simp) (by have := sm.terms; simp; omega) rfl (by
      rintro x hm acc junk hj hb
      obtain ⟨hlt, hg⟩ := zi_lt hf hm
      have hr := row_at hlt
      have ha : moveAt s e n x = moveRow e n x.1 x.2 s.2[x.2] := by simp [moveAt, hg]
      have hxm : x.1 ∈ p.terms := by
        have hz := List.mem_zipIdx hm
        rw [hz.2.2]
        exact List.getElem_mem _
      have hren := eq_ss (sm.rens x.1 hxm) ok_anew
      rw [ha]
      clear ha hg
      generalize s.2[x.2] = r at hr
      match junk, hj with
      | [a, b, c, d], _ =>
      have l1 : acc.length + [rowE (moveRow e n x.1 x.2 r)].length ≤ LIM := by simp; unfold LIM; omega
      have hno := eq_oi n x.2
      have hio := is_on n
      refine ⟨[some (.d (.int x.2)), some (.d x.1.e), some (.d (.int (mvRow e n x.1 x.2 r).1)), some (.d (.int (mvRow e n x.1 x.2 r).2))], ?_, rfl⟩
      have hb2 : acc.length + 1 ≤ LIM := by unfold LIM; omega
      cases hb : (e == noS) with
      | true =>
        rw [hb] at q1 q2
        simp [loopF, lawMoveB, b__law_move, -idx_t, -idx_l, s1, hr, rowE, q1, q2, hb, hb2, moveRow, mvRow]
      | false =>
        rw [hb] at q1 q2
        cases n with
        | none =>
          cases hs : x.1.sale with
          | true => simp [loopF, lawMoveB, b__law_move, -idx_t, -idx_l, s1, hr, rowE, q1, q2, hno, hio, t5, t1, t4, hs, hb, hb2, moveRow, mvRow]
          | false => simp [loopF, lawMoveB, b__law_move, -idx_t, -idx_l, s1, hr, rowE, q1, q2, hno, hio, t5, t1, t4, hs, hb, hb2, moveRow, mvRow]
        | some m =>
          by_cases hm2 : m = x.2
          · subst hm2
            cases hrn : (x.1.ren == anewS) with
            | true =>
              rw [hrn] at hren
              simp [loopF, lawMoveB, b__law_move, -idx_t, -idx_l, s1, hr, rowE, q1, q2, hno, hio, t5, t1, t3, t4, hren, hrn, hb, hb2, moveRow, mvRow]
            | false =>
              rw [hrn] at hren
              simp [loopF, lawMoveB, b__law_move, -idx_t, -idx_l, s1, hr, rowE, q1, q2, hno, hio, t5, t1, t3, t4, hren, hrn, hb, hb2, moveRow, mvRow]
          · simp [loopF, lawMoveB, b__law_move, -idx_t, -idx_l, s1, hr, rowE, q1, q2, hno, hio, t5, t1, t3, t4, hren, hm2, hb, hb2, moveRow, mvRow])
  match jk, hj with
  | [a, b, c, d], _ =>
  rw [← List.map_eq_flatMap] at q
  simp [lawMoveB, b__law_move] at q
  simp [runD, d__law_move, b__law_move, exC_loop, -idx_t, -idx_l, e3, s0, q1, enumL_map, q, h1]
  simp [stE, lawMove, Function.comp_def]
end
end Rf
namespace Rf
open PySem
def RowOk (t : Tm) (r : Row) : Prop := (0 ≤ r.1 ∧ r.1 ≤ t.days) ∧ (if t.cl = 0 then r.2 = -1 else 0 ≤ r.2 ∧ r.2 ≤ t.cl)
/-- a state with days and claims as they may be -/
structure StOk (p : Pt) (s : St) : Prop where
  fits : Fits p s
  age : 0 ≤ s.1 ∧ s.1 ≤ gage p
  rows : ∀ (i : Nat) t r, p.terms[i]? = some t → s.2[i]? = some r → RowOk t r
/-- a part as drawn -/
structure PtOk (p : Pt) : Prop where
  small : Small p
  days : ∀ t ∈ p.terms, 1 ≤ t.days
  cl : ∀ t ∈ p.terms, 0 ≤ t.cl
  gage : 0 ≤ gage p
theorem able_at {p : Pt} {s : St} {k : Str} {m : Nat} (h : m ∈ able p s k) : ∃ t r, p.terms[m]? = some t ∧ s.2[m]? = some r ∧ can t r k = true := by
  obtain ⟨x, hx, e⟩ := List.mem_filterMap.mp h
  split at e
  · rename_i hc
    cases e
    have hz := List.mem_zipIdx hx
    have h2 := hz.2.2
    have hlt := hz.2.1
    rw [List.length_zip] at hlt
    have ht : x.2 < p.terms.length := by omega
    have hs : x.2 < s.2.length := by omega
    refine ⟨x.1.1, x.1.2, ?_, ?_, hc⟩
    · rw [List.getElem?_eq_getElem ht, h2]; simp
    · rw [List.getElem?_eq_getElem hs, h2]; simp
  · cases e
theorem rowsClaim_len {p : Pt} {rs : List Row} {n : Nat} (hl : rs.length = p.terms.length) (hn : n < rs.length) : (rowsClaim p rs n).length = rs.length := by
  have e1 : p.terms[n]? = some p.terms[n] := List.getElem?_eq_getElem (by omega)
  have e2 : rs[n]? = some rs[n] := List.getElem?_eq_getElem hn
  simp [rowsClaim, e1, e2]; omega
theorem rowsClaim_at {p : Pt} {rs : List Row} {n : Nat} (hl : rs.length = p.terms.length) (hn : n < rs.length) (i : Nat) (hi : i < rs.length) : (rowsClaim p rs n)[i]? = some (if i = n then claimRow (p.terms[n]'(by omega)) rs[n] else rs[i]) := by
  have e1 : p.terms[n]? = some (p.terms[n]'(by omega)) := List.getElem?_eq_getElem (by omega)
  have e2 : rs[n]? = some rs[n] := List.getElem?_eq_getElem hn
  have e3 : rowsClaim p rs n = rs.set n (claimRow (p.terms[n]'(by omega)) rs[n]) := by
    simp only [rowsClaim, e1, e2]
    rw [List.set_eq_take_append_cons_drop, if_pos hn]; simp
  rw [e3, List.getElem?_set]
  by_cases h : n = i
  · subst h; simp [hn]
  · rw [if_neg h, if_neg (fun z => h z.symm), List.getElem?_eq_getElem hi]
theorem lawMove_age {p : Pt} {s : St} {e : Str} {n : Option Nat} : (lawMove p s e n).1 = if gage p < (if e = noS then s.1 else 0) + 1 then gage p else (if e = noS then s.1 else 0) + 1 := by
  simp [lawMove]
theorem lawMove_at {p : Pt} {s : St} (hf : Fits p s) (e : Str) (n : Option Nat) (i : Nat) (hi : i < s.2.length) : (lawMove p s e n).2[i]? = some (moveRow e n (p.terms[i]'(by unfold Fits at hf; omega)) i s.2[i]) := by
  have ht : i < p.terms.length := by unfold Fits at hf; omega
  have e1 : (List.zipIdx p.terms)[i]? = some (p.terms[i], i) := by simp [ht]
  show ((List.zipIdx p.terms).map (moveAt s e n))[i]? = _
  rw [List.getElem?_map, e1]
  simp [moveAt, hi]
theorem lawMove_len {p : Pt} {s : St} (hf : Fits p s) (e : Str) (n : Option Nat) : (lawMove p s e n).2.length = s.2.length := by
  unfold Fits at hf
  simp [lawMove, hf]
theorem ageRow_eq (r : Row) : ageRow r = (if 0 < r.1 then r.1 - 1 else 0, r.2) := by
  unfold ageRow
  refine Prod.ext ?_ rfl
  show (if r.1 - 1 > 0 then r.1 - 1 else 0) = if 0 < r.1 then r.1 - 1 else 0
  split <;> split <;> omega
theorem ext_rows {xs ys : List Row} (hl : xs.length = ys.length) (h : ∀ i, i < xs.length → xs[i]? = ys[i]?) : xs = ys := by
  apply List.ext_getElem?
  intro i
  by_cases hi : i < xs.length
  · exact h i hi
  · rw [List.getElem?_eq_none (by omega), List.getElem?_eq_none (by omega)]
theorem lawMove_quiet {p : Pt} {s : St} (hf : Fits p s) (n : Option Nat) : lawMove p s noS n = endDay p s.1 s.2 := by
  refine Prod.ext ?_ ?_
  · simp [lawMove_age, endDay]
  · refine ext_rows (by rw [lawMove_len hf]; simp [endDay]) fun i hi => ?_
    rw [lawMove_len hf] at hi
    rw [lawMove_at hf _ _ _ hi]
    simp [endDay, hi, ageRow_eq, moveRow, mvRow]
theorem lawMove_fault {p : Pt} (po : PtOk p) {s : St} (so : StOk p s) {e : Str} (he : ¬ e = noS) : lawMove p s e (first p s e) = fault p s (first p s e) := by
  have hf := so.fits
  have hb : (e == noS) = false := by simpa using he
  cases hn : first p s e with
  | none =>
    refine Prod.ext ?_ ?_
    · simp [lawMove_age, fault, endDay, he]
    · have hl : (rowsSale p s.2).length = s.2.length := by unfold Fits at hf; simp [rowsSale, hf]
      refine ext_rows (by rw [lawMove_len hf]; simp [fault, endDay, hl]) fun i hi => ?_
      rw [lawMove_len hf] at hi
      rw [lawMove_at hf _ _ _ hi]
      have ht : i < p.terms.length := by unfold Fits at hf; omega
      have hc := po.cl _ (List.getElem_mem ht)
      have hz : (p.terms.zip s.2)[i]? = some (p.terms[i], s.2[i]) := by rw [List.getElem?_eq_getElem (by rw [List.length_zip]; omega)]; simp
      simp [fault, endDay, rowsSale, ht, hi, hz, ageRow_eq, moveRow, mvRow, hb]
      by_cases hs : p.terms[i].sale = true
      · by_cases h0 : 0 < p.terms[i].cl
        · have : ¬ p.terms[i].cl = 0 := by omega
          simp [hs, fresh, h0, this]
        · have : p.terms[i].cl = 0 := by omega
          simp [hs, fresh, this]
      · simp [hs]
  | some m =>
    have hm : m ∈ able p s e := List.mem_of_head? hn
    obtain ⟨hmt, hms⟩ := first_lt hn
    refine Prod.ext ?_ ?_
    · simp [lawMove_age, fault, endDay, he]
    · have hl := rowsClaim_len hf hms
      refine ext_rows (by rw [lawMove_len hf]; simp [fault, endDay, hl]) fun i hi => ?_
      rw [lawMove_len hf] at hi
      rw [lawMove_at hf _ _ _ hi]
      have ht : i < p.terms.length := by unfold Fits at hf; omega
      simp only [fault, endDay]
      rw [List.getElem?_map, rowsClaim_at hf hms i hi]
      simp [ageRow_eq, moveRow, mvRow, hb]
      by_cases hi2 : i = m
      · subst hi2
        obtain ⟨t, r, et, er, hc⟩ := able_at hm
        have hr := so.rows i t r et er
        rw [List.getElem?_eq_getElem ht] at et
        rw [List.getElem?_eq_getElem hi] at er
        cases et
        cases er
        simp [can] at hc
        have hc0 := po.cl _ (List.getElem_mem ht)
        have hd := po.days _ (List.getElem_mem ht)
        obtain ⟨hr1, hr2⟩ := hr
        have key : (if 0 < s.2[i].2 then s.2[i].2 - 1 else s.2[i].2) = if s.2[i].2 = -1 then s.2[i].2 else s.2[i].2 - 1 := by
          have hc2 : s.2[i].2 = -1 ∨ 0 ≤ s.2[i].2 := by split at hr2 <;> omega
          by_cases g1 : 0 < s.2[i].2
          · rw [if_pos g1, if_neg (by omega)]
          · rw [if_neg g1, if_pos (by omega)]
        simp [claimRow, key]
      · have hi3 : ¬ m = i := fun z => hi2 z.symm
        simp [hi2, hi3]
theorem lawMove_eq {p : Pt} (po : PtOk p) {s : St} (so : StOk p s) (e : Str) : lawMove p s e (if e = noS then none else first p s e) = step p s e := by
  by_cases he : e = noS
  · subst he
    simp [step, lawMove_quiet so.fits]
  · have hb : (e == noS) = false := by simpa using he
    simp [step, he, lawMove_fault po so he]
end Rf
namespace Rf
open PySem
/-! ### what is shaped -/
theorem lay_map {α : Type} (f : α → PyData) : ∀ xs : List α, (∀ x ∈ xs, (f x).canLay0 = true) → PyData.canLayAll0 (xs.map f) = true
  | [], _ => rfl
  | x :: xs, h => by
    show ((f x).canLay0 && PyData.canLayAll0 (xs.map f)) = true
    rw [h x (List.mem_cons_self ..), lay_map f xs fun y hy => h y (List.mem_cons_of_mem _ hy)]; rfl
theorem dep_map {α : Type} (f : α → PyData) (n : Nat) : ∀ xs : List α, (∀ x ∈ xs, (f x).depth ≤ n) → PyData.depthAll (xs.map f) ≤ n
  | [], _ => Nat.zero_le _
  | x :: xs, h => by
    show max (f x).depth (PyData.depthAll (xs.map f)) ≤ n
    have h1 := h x (List.mem_cons_self ..)
    have h2 := dep_map f n xs fun y hy => h y (List.mem_cons_of_mem _ hy)
    omega
theorem okD_of {d : PyData} (h1 : d.canLay0 = true) (h2 : d.depth ≤ 64) : okD d = true := by
  show (d.canLay0 && decide (d.depth ≤ 64)) = true
  rw [h1, decide_eq_true h2]; rfl
theorem okD_lay {d : PyData} (h : okD d = true) : d.canLay0 = true := SeqAt.canLay_of_shaped h
theorem okD_map {α : Type} (f : α → PyData) (xs : List α) (n : Nat) (hn : n ≤ 63) (h : ∀ x ∈ xs, (f x).canLay0 = true ∧ (f x).depth ≤ n) : okD (.list (xs.map f)) = true ∧ okD (.tuple (xs.map f)) = true := by
  have h1 := lay_map f xs fun x hx => (h x hx).1
  have h2 := dep_map f n xs fun x hx => (h x hx).2
  exact ⟨okD_of h1 (by show PyData.depthAll (xs.map f) + 1 ≤ 64; omega), okD_of h1 (by show PyData.depthAll (xs.map f) + 1 ≤ 64; omega)⟩
theorem ok_row (r : Row) : (rowE r).canLay0 = true ∧ (rowE r).depth ≤ 1 := ⟨rfl, Nat.le_refl _⟩
theorem ok_st (s : St) : (stE s).canLay0 = true ∧ (stE s).depth ≤ 3 := by
  have h1 := lay_map rowE s.2 fun r _ => (ok_row r).1
  have h2 := dep_map rowE 1 s.2 fun r _ => (ok_row r).2
  refine ⟨?_, ?_⟩
  · show (true && (PyData.canLayAll0 (s.2.map rowE) && true)) = true
    rw [h1]; rfl
  · show max 0 (max (PyData.depthAll (s.2.map rowE) + 1) 0) + 1 ≤ 3
    omega
theorem okD_st (s : St) : okD (stE s) = true := okD_of (ok_st s).1 (Nat.le_trans (ok_st s).2 (by decide))
theorem okD_nats (ns : List Nat) : okD (.list (ns.map fun n => .int (n : Nat))) = true := (okD_map _ ns 0 (by decide) fun n _ => ⟨rfl, Nat.le_refl _⟩).1
theorem okD_strs {ks : List Str} (h : ∀ k ∈ ks, okD (.str k) = true) : okD (.list (ks.map .str)) = true := (okD_map _ ks 0 (by decide) fun k hk => ⟨okD_lay (h k hk), Nat.le_refl _⟩).1
theorem ne_nats (ns : List Nat) : cmpD .ne (.list (ns.map fun n => .int (n : Nat))) (.list []) = some (!ns.isEmpty) := by
  show (if (okD _ && okD _) = true then some (!PyData.eqv _ _) else none) = _
  rw [okD_nats, show okD (.list []) = true from rfl]
  cases ns <;> rfl
theorem ne_same {d : PyData} (h : okD d = true) : cmpD .ne d d = some false := by
  show (if (okD d && okD d) = true then some (!PyData.eqv d d) else none) = some false
  rw [h, SeqAt.eqv_refl d (okD_lay h)]; rfl
theorem eq_same {d : PyData} (h : okD d = true) : cmpD .eq d d = some true := by
  show (if (okD d && okD d) = true then some (PyData.eqv d d) else none) = some true
  rw [h, SeqAt.eqv_refl d (okD_lay h)]; rfl
theorem evts_ok {p : Pt} (sm : Small p) {a : Int} {e : Str} (h : e ∈ evts p a) : okD (.str e) = true := by
  rcases List.mem_append.mp h with h | h
  · split at h
    · rw [List.mem_singleton.mp h]; exact ok_empty
    · cases h
  · obtain ⟨l, hl, rfl⟩ := List.mem_map.mp h
    exact sm.kinds l (List.mem_filter.mp hl).1
theorem evts_len {p : Pt} (sm : Small p) (a : Int) : (evts p a).length ≤ 4 := by
  have hl : (p.lives.filter fun l => decide (l.2 ≤ a)).length ≤ 3 := Nat.le_trans (List.length_filter_le _ _) sm.lives
  unfold evts
  split <;> simp <;> omega
/-! ### states stay states -/
theorem rowOk_age {t : Tm} {r : Row} (h : RowOk t r) : RowOk t (ageRow r) := by
  obtain ⟨⟨h1, h2⟩, h3⟩ := h
  rw [ageRow_eq]
  refine ⟨?_, h3⟩
  show 0 ≤ (if 0 < r.1 then r.1 - 1 else 0) ∧ (if 0 < r.1 then r.1 - 1 else 0) ≤ t.days
  split <;> omega
theorem rowOk_fresh {t : Tm} (h1 : 1 ≤ t.days) (h2 : 0 ≤ t.cl) : RowOk t (fresh t) := by
  refine ⟨⟨by show 0 ≤ t.days; omega, Int.le_refl _⟩, ?_⟩
  show if t.cl = 0 then (if t.cl = 0 then -1 else t.cl) = -1 else 0 ≤ (if t.cl = 0 then -1 else t.cl) ∧ (if t.cl = 0 then -1 else t.cl) ≤ t.cl
  split
  · rfl
  · omega
theorem rowOk_claim {t : Tm} {r : Row} (h : RowOk t r) (hc : ¬ r.2 = 0) : RowOk t (claimRow t r) := by
  obtain ⟨⟨h1, h2⟩, h3⟩ := h
  unfold claimRow
  refine ⟨?_, ?_⟩
  · show 0 ≤ (if (t.ren == anewS) = true then t.days else r.1) ∧ (if (t.ren == anewS) = true then t.days else r.1) ≤ t.days
    split <;> omega
  · show if t.cl = 0 then (if (r.2 == -1) = true then r.2 else r.2 - 1) = -1 else 0 ≤ (if (r.2 == -1) = true then r.2 else r.2 - 1) ∧ (if (r.2 == -1) = true then r.2 else r.2 - 1) ≤ t.cl
    by_cases h0 : t.cl = 0
    · rw [if_pos h0] at h3 ⊢
      simp [h3]
    · rw [if_neg h0] at h3 ⊢
      have : ¬ r.2 = -1 := by omega
      simp [this]; omega
theorem stOk_endDay {p : Pt} (po : PtOk p) {a : Int} (ha : 0 ≤ a) {rs : List Row} (hl : rs.length = p.terms.length) (hr : ∀ (i : Nat) t r, p.terms[i]? = some t → rs[i]? = some r → RowOk t r) : StOk p (endDay p a rs) := by
  have := po.gage
  refine ⟨by show (rs.map ageRow).length = _; simpa using hl, ?_, fun i t r h1 h2 => ?_⟩
  · show 0 ≤ (if gage p < a + 1 then gage p else a + 1) ∧ (if gage p < a + 1 then gage p else a + 1) ≤ gage p
    split <;> omega
  · have h2 : (rs.map ageRow)[i]? = some r := h2
    rw [List.getElem?_map] at h2
    obtain ⟨r0, e0, rfl⟩ := Option.map_eq_some_iff.mp h2
    exact rowOk_age (hr i t r0 h1 e0)
theorem stOk_step {p : Pt} (po : PtOk p) {s : St} (so : StOk p s) (e : Str) : StOk p (step p s e) := by
  have hf := so.fits
  unfold step
  split
  · exact stOk_endDay po so.age.1 hf so.rows
  · cases hn : first p s e with
    | none =>
      refine stOk_endDay po (Int.le_refl _) (by unfold Fits at hf; simp [rowsSale, hf]) fun i t r h1 h2 => ?_
      obtain ⟨x, hx, rfl⟩ := Option.map_eq_some_iff.mp (show ((p.terms.zip s.2)[i]?).map (fun x : Tm × Row => if x.1.sale then fresh x.1 else x.2) = some r by rw [← List.getElem?_map]; exact h2)
      have ht := (List.getElem?_eq_some_iff.mp h1)
      obtain ⟨ht, rfl⟩ := ht
      have hs : i < s.2.length := by unfold Fits at hf; omega
      rw [List.getElem?_eq_getElem (by rw [List.length_zip]; omega)] at hx
      simp at hx
      subst hx
      show RowOk _ (if p.terms[i].sale = true then fresh p.terms[i] else s.2[i])
      split
      · exact rowOk_fresh (po.days _ (List.getElem_mem ht)) (po.cl _ (List.getElem_mem ht))
      · exact so.rows i _ _ h1 (List.getElem?_eq_getElem hs)
    | some m =>
      have hm : m ∈ able p s e := List.mem_of_head? hn
      obtain ⟨hmt, hms⟩ := first_lt hn
      obtain ⟨t', r', et, er, hc⟩ := able_at hm
      refine stOk_endDay po (Int.le_refl _) (by rw [rowsClaim_len hf hms]; exact hf) fun i t r h1 h2 => ?_
      have hi : i < s.2.length := by have := (List.getElem?_eq_some_iff.mp h1).1; unfold Fits at hf; omega
      rw [rowsClaim_at hf hms i hi] at h2
      cases h2
      by_cases hi2 : i = m
      · subst hi2
        rw [if_pos rfl]
        have hr := so.rows i t' r' et er
        rw [List.getElem?_eq_getElem hmt] at et h1
        rw [List.getElem?_eq_getElem hi] at er
        cases et; cases er; cases h1
        simp [can] at hc
        exact rowOk_claim hr hc.1.2
      · rw [if_neg hi2]
        exact so.rows i t _ h1 (List.getElem?_eq_getElem hi)
theorem stOk_new {p : Pt} (po : PtOk p) : StOk p (newS p) := by
  refine ⟨by simp [Fits, newS], ⟨Int.le_refl _, po.gage⟩, fun i t r h1 h2 => ?_⟩
  have h2 : (p.terms.map fresh)[i]? = some r := h2
  rw [List.getElem?_map, h1] at h2
  cases h2
  have := List.mem_of_getElem? h1
  exact rowOk_fresh (po.days _ this) (po.cl _ this)
theorem isSt_ok {p : Pt} {s : St} (so : StOk p s) : isSt p (stE s) = true := by
  have hf := so.fits
  unfold Fits at hf
  have hr : (p.terms.zip (s.2.map rowE)).all (fun x => isRow x.1 x.2) = true := by
    rw [List.all_eq_true]
    intro x hx
    obtain ⟨i, hi, rfl⟩ := List.getElem_of_mem hx
    rw [List.length_zip, List.length_map] at hi
    have h1 : p.terms[i]? = some (p.terms[i]'(by omega)) := List.getElem?_eq_getElem (by omega)
    have h2 : s.2[i]? = some (s.2[i]'(by omega)) := List.getElem?_eq_getElem (by omega)
    obtain ⟨⟨a, b⟩, c⟩ := so.rows i _ _ h1 h2
    simp [isRow, rowE, isNum, a, b]
    split at c
    · rename_i h0; simp [h0, isNum, c]
    · rename_i h0; simp [h0, isNum, c]
  simp [isSt, stE, isNum, so.age, isRows, hf, hr]
end Rf
namespace Rf
open PySem
def stepE (p : Pt) (s : St) (e : Str) : PyData := .tuple [.str e, stE (step p s e), .int (paid p s e)]
def lawStepsB : Cs := match b__law_steps with
  | .cons _ (.cons (.loop _ _ b) _) => b
  | _ => .nil
theorem itemsD_map {α : Type} (f : α → PyData) (xs : List α) : itemsD (.list (xs.map f)) = some (xs.map f) := rfl
section
variable {O : Orc} {fu : Nat} {S : Sto}
theorem r_law_steps {p : Pt} (po : PtOk p) {s : St} (so : StOk p s)
    (h1 : ∀ S, O "_law_events" [.d p.e, .d (stE s)] S = .d (.list ((evts p s.1).map .str)))
    (h2 : ∀ k S, O "_law_able" [.d p.e, .d (stE s), .d (.str k)] S = .fresh ((able p s k).map fun n => .int (n : Nat)))
    (h3 : ∀ e n S, okD (.str e) = true → O "_law_move" [.d p.e, .d (stE s), .d (.str e), .d (optE n)] S = .d (stE (lawMove p s e n))) :
    runD O fu d__law_steps [.d p.e, .d (stE s)] S = .fresh ((evts p s.1).map (stepE p s)) := by
  obtain ⟨jk, q, hj⟩ := forGo_acc (enc := PyData.str) (step := loopF O fu S.length (.v 3) lawStepsB) (fixed := [some (.d p.e), some (.d (stE s)), some (.r S.length)]) (j := 3) (S := S)
    (fun e => [stepE p s e]) (evts p s.1) 1000 [] [none, none, none] (fun x _ => by simp) (by have := evts_len po.small s.1; simp; omega) rfl (by
      rintro e hm acc junk hj hb
      have he := evts_ok po.small hm
      have q2 := ne_ss he ok_empty
      have hb2 : acc.length + 1 ≤ LIM := by unfold LIM; omega
      match junk, hj with
      | [a, b, c], _ =>
      have lm := lawMove_eq po so e
      cases hb : (e == noS) with
      | true =>
        rw [hb] at q2
        have he0 : e = noS := by simpa using hb
        have h3' := h3 e none (S ++ [.lst acc]) he
        rw [if_pos he0] at lm
        rw [lm] at h3'
        have hx : cmpD .ne (.list []) (.list []) = some false := rfl
        have hp : paid p s e = 0 := by simp [paid, hb]
        refine ⟨[some (.d (.str e)), some (.d (.list [])), some (.d .none)], ?_, rfl⟩
        rw [optE_none] at h3'
        simp [loopF, lawStepsB, b__law_steps, -idx_t, -idx_l, q2, hx, h3', hb2, stepE, hp]
      | false =>
        rw [hb] at q2
        have he0 : ¬ e = noS := by simpa using hb
        have h3' := h3 e (first p s e) (S ++ [.lst acc]) he
        rw [if_neg he0] at lm
        rw [lm] at h3'
        have hx := ne_nats (able p s e)
        cases hn : able p s e with
        | nil =>
          have hfi : first p s e = none := by simp [first, hn]
          rw [hfi, optE_none] at h3'
          rw [hn] at hx
          have hp : paid p s e = p.price := by simp [paid, hb, hfi]
          refine ⟨[some (.d (.str e)), some (.d (.list [])), some (.d .none)], ?_, rfl⟩
          simp at hx
          simp [loopF, lawStepsB, b__law_steps, -idx_t, -idx_l, q2, h2, hn, hx, h3', hb2, stepE, hp, e0]
        | cons n ns =>
          have hfi : first p s e = some n := by simp [first, hn]
          rw [hfi, optE_some] at h3'
          rw [hn] at hx
          have hp : paid p s e = 0 := by simp [paid, hb, hfi]
          have hi : idxD (.list (.int (n : Nat) :: ns.map fun n => .int (n : Nat))) (.int 0) = some (.int n) := by
            show (ixAt _ 0).bind _ = _
            rw [show ixAt (PyData.int (n : Nat) :: ns.map fun n => .int (n : Nat)).length 0 = some 0 from ixAt_nat (m := 0) (by simp)]
            rfl
          refine ⟨[some (.d (.str e)), some (.d (.list (.int (n : Nat) :: ns.map fun n => .int (n : Nat)))), some (.d (.int n))], ?_, rfl⟩
          simp at hx
          simp [loopF, lawStepsB, b__law_steps, -idx_t, -idx_l, q2, h2, hn, hx, hi, h3', hb2, stepE, hp])
  match jk, hj with
  | [a, b, c], _ =>
  rw [← List.map_eq_flatMap] at q
  simp [lawStepsB, b__law_steps] at q
  simp [runD, d__law_steps, b__law_steps, exC_loop, h1, q]
  exact out_r (by simp) (Nat.le_refl _)
theorem r_check_state {p : Pt} {s : St} (so : StOk p s) (h1 : ∀ d S, O "is_state" [.d p.e, .d d] S = .d (.bool (isSt p d))) : runD O fu d_check_state [.d p.e, .d (stE s)] S = .d .none := by
  simp [runD, d_check_state, b_check_state, h1, isSt_ok so]
theorem r_events {p : Pt} {s : St} (h1 : ∀ S, O "check_state" [.d p.e, .d (stE s)] S = .d .none) (h2 : ∀ S, O "possible_events" [.d p.e, .d (stE s)] S = .d (.list ((evts p s.1).map .str))) :
    runD O fu d_events [.d p.e, .d (stE s)] S = .d (.list ((evts p s.1).map .str)) := by
  simp [runD, d_events, b_events, h1, h2]
theorem r_asked {p : Pt} {s : St} {k : Str} (h1 : ∀ S, O "check_state" [.d p.e, .d (stE s)] S = .d .none) (h2 : ∀ S, O "check_kind" [.d (.str k)] S = .d .none)
    (h3 : ∀ S, O "askable" [.d p.e, .d (stE s), .d (.str k)] S = .d (.list ((able p s k).map fun n => .int (n : Nat)))) :
    runD O fu d_asked [.d p.e, .d (stE s), .d (.str k)] S = .d (.list ((able p s k).map fun n => .int (n : Nat))) := by
  simp [runD, d_asked, b_asked, h1, h2, h3]
theorem any_strs (e : Str) : ∀ ks : List Str, (ks.map PyData.str).any (fun z => PyData.eqv z (.str e)) = decide (e ∈ ks)
  | [] => rfl
  | k :: ks => by
    simp only [List.map_cons, List.any_cons, any_strs e ks, str_eq]
    by_cases h : k = e
    · subst h; simp
    · have : ¬ e = k := fun z => h z.symm
      simp [h, this]
theorem nin_strs {e : Str} {ks : List Str} (he : okD (.str e) = true) (hk : ∀ k ∈ ks, okD (.str k) = true) : cmpD .nin (.str e) (.list (ks.map .str)) = some (!decide (e ∈ ks)) := by
  show (if (okD (.str e) && okD (.list (ks.map .str))) = true then some (!(ks.map PyData.str).any fun z => PyData.eqv z (.str e)) else none) = _
  rw [he, okD_strs hk, any_strs]; rfl
theorem isin_strs {e : Str} {ks : List Str} (he : okD (.str e) = true) (hk : ∀ k ∈ ks, okD (.str k) = true) : cmpD .isin (.str e) (.list (ks.map .str)) = some (decide (e ∈ ks)) := by
  show (if (okD (.str e) && okD (.list (ks.map .str))) = true then some ((ks.map PyData.str).any fun z => PyData.eqv z (.str e)) else none) = _
  rw [he, okD_strs hk, any_strs]; rfl
theorem r_next_state {p : Pt} (po : PtOk p) {s : St} {e : Str} (he : e ∈ evts p s.1) (h1 : ∀ S, O "check_state" [.d p.e, .d (stE s)] S = .d .none) (h2 : ∀ S, O "possible_events" [.d p.e, .d (stE s)] S = .d (.list ((evts p s.1).map .str)))
    (h3 : ∀ S, O "state_by_order" [.d p.e, .d (stE s), .d (.str e)] S = .d (stE (step p s e))) : runD O fu d_next_state [.d p.e, .d (stE s), .d (.str e)] S = .d (stE (step p s e)) := by
  have hn := nin_strs (evts_ok po.small he) (fun k hk => evts_ok po.small hk (a := s.1))
  simp [runD, d_next_state, b_next_state, h1, h2, h3, hn, he]
theorem r_new_state {p : Pt} (h1 : ∀ S, O "check_part" [.d p.e] S = .d .none) (h2 : ∀ S, O "fresh_state" [.d p.e] S = .d (stE (newS p))) : runD O fu d_new_state [.d p.e] S = .d (stE (newS p)) := by
  simp [runD, d_new_state, b_new_state, h1, h2]
theorem r_check_part {d : PyData} (h1 : ∀ S, O "is_part" [.d d] S = .d (.bool true)) : runD O fu d_check_part [.d d] S = .d .none := by
  simp [runD, d_check_part, b_check_part, h1]
end
end Rf
namespace Rf
open PySem
def judgedB : Cs := match b__law_judged with
  | .cons _ (.cons _ (.cons _ (.cons _ (.cons (.loop _ _ b) _)))) => b
  | _ => .nil
/-- the rows with another one at n -/
def putRow (R : List PyData) (n : Nat) (d : PyData) : PyData := .tuple [.int 0, .tuple (R.take n ++ d :: R.drop (n + 1))]
theorem put_bad {p : Pt} {R : List PyData} {n : Nat} {t : Tm} {d : PyData} (hl : R.length = p.terms.length) (ht : p.terms[n]? = some t) (hd : isRow t d = false) : isSt p (putRow R n d) = false := by
  obtain ⟨hn, et⟩ := List.getElem?_eq_some_iff.mp ht
  have e : R.take n ++ d :: R.drop (n + 1) = R.set n d := by rw [List.set_eq_take_append_cons_drop, if_pos (by omega)]
  have hr : isRows p (.tuple (R.set n d)) = false := by
    cases h : isRows p (.tuple (R.set n d)) with
    | false => rfl
    | true =>
      simp only [isRows, Bool.and_eq_true] at h
      have h2 := List.all_eq_true.mp h.2 (t, d) (List.mem_iff_getElem?.mpr ⟨n, by
        rw [List.getElem?_eq_getElem (by rw [List.length_zip, List.length_set]; omega)]
        simp [et]⟩)
      rw [hd] at h2; cases h2
  unfold putRow
  rw [e]
  simp [isSt, hr]
def badRows (t : Tm) : List PyData := [.tuple [.int (t.days + 1), .int (fresh t).2], .tuple [.int (-1), .int (fresh t).2], .tuple [.int t.days, .int ((fresh t).2 + 1)], .tuple [.int t.days], .list [.int t.days, .int (fresh t).2],
  .tuple [.int t.days, .int (-2)], .tuple [.bool true, .int (fresh t).2], if t.cl = 0 then .tuple [.int t.days, .int 0] else .tuple [.int t.days, .int (-1)]]
theorem badRows_bad {t : Tm} (h : 0 ≤ t.cl) : ∀ d ∈ badRows t, isRow t d = false := by
  intro d hd
  simp only [badRows, List.mem_cons, List.not_mem_nil, or_false] at hd
  by_cases h0 : t.cl = 0
  · rcases hd with rfl | rfl | rfl | rfl | rfl | rfl | rfl | rfl <;> simp [isRow, isNum, fresh, h0] <;> omega
  · rcases hd with rfl | rfl | rfl | rfl | rfl | rfl | rfl | rfl <;> simp [isRow, isNum, fresh, h0] <;> omega
section
variable {O : Orc} {fu : Nat} {S : Sto}
theorem r_law_judged {p : Pt} (po : PtOk p) (h1 : ∀ S, O "_law_new" [.d p.e] S = .d (stE (newS p))) (h2 : ∀ S, O "_law_last" [.d p.e] S = .d (.int (gage p))) (h3 : ∀ d S, O "is_state" [.d p.e, .d d] S = .d (.bool (isSt p d))) :
    runD O fu d__law_judged [.d p.e] S = .d (.bool true) := by
  have hRl : ((newS p).2.map rowE).length = p.terms.length := by simp [newS]
  have hRg : ∀ n t, p.terms[n]? = some t → idxD (.tuple ((newS p).2.map rowE)) (.int (n : Nat)) = some (.tuple [.int t.days, .int (fresh t).2]) := by
    intro n t ht
    have hn := (List.getElem?_eq_some_iff.mp ht).1
    have h := row_at (rs := (newS p).2) (n := n) (by simp [newS]; exact hn)
    rw [h]
    have : (newS p).2[n]'(by simp [newS]; exact hn) = fresh t := by
      obtain ⟨hn, et⟩ := List.getElem?_eq_some_iff.mp ht
      simp [newS, et]
    rw [this]; rfl
  have hb0 : ∀ d ∈ [PyData.none, .tuple [.int 0], .list [.int 0, .tuple ((newS p).2.map rowE)], .tuple [.int 0, .list ((newS p).2.map rowE)], .tuple [.int (-1), .tuple ((newS p).2.map rowE)], .tuple [.int (gage p + 1), .tuple ((newS p).2.map rowE)], .tuple [.bool false, .tuple ((newS p).2.map rowE)], .tuple [.int 0, .tuple ((newS p).2.map rowE ++ [.tuple [.int 0, .int 0]])]], isSt p d = false := by
    intro d hd
    simp only [List.mem_cons, List.not_mem_nil, or_false] at hd
    have hr : isRows p (.tuple ((newS p).2.map rowE ++ [.tuple [.int 0, .int 0]])) = false := by
      simp [isRows]; intro h; simp [newS] at h
    have hg1 : isNum 0 (gage p) (.int (gage p + 1)) = false := by
      have : ¬ (gage p + 1 ≤ gage p) := by omega
      simp only [isNum]
      rw [decide_eq_false this, Bool.and_false]
    rcases hd with rfl | rfl | rfl | rfl | rfl | rfl | rfl | rfl
    all_goals first | rfl | (simp [isSt, isNum, hr, isRows]; done) | (simp only [isSt]; rw [hg1]; rfl) | (simp only [isSt]; rw [hr, Bool.and_false])
  have hR3 : ((newS p).2.map rowE).length ≤ 3 := by rw [hRl]; exact po.small.terms
  have hs0 : stE (newS p) = .tuple [.int 0, .tuple ((newS p).2.map rowE)] := rfl
  have hst := isSt_ok (stOk_new po)
  rw [hs0] at h1 hst
  generalize (newS p).2.map rowE = R at hRl hRg hb0 hR3 h1 hst
  have hs : ∀ pre x post env S1, List.zipIdx p.terms = pre ++ x :: post →
      (fun (pre : List (Tm × Nat)) (env' : Env) (S' : Sto) => ∃ acc ex a b c d e', S' = S ++ .lst acc :: ex ∧ (∀ x ∈ acc, isSt p x = false) ∧ acc.length ≤ 8 + 8 * pre.length ∧ env' = [some (.d p.e), some (.d (.tuple [.int 0, .tuple R])), some (.d (.tuple R)), some (.r S.length), a, b, c, d, e', none, none]) pre env S1 →
      ∃ env' S', loopF O fu S.length (.tup [4, 5]) judgedB (.tuple [.int x.2, x.1.e]) env S1 = .nx env' S' ∧
      (fun (pre : List (Tm × Nat)) (env' : Env) (S' : Sto) => ∃ acc ex a b c d e', S' = S ++ .lst acc :: ex ∧ (∀ x ∈ acc, isSt p x = false) ∧ acc.length ≤ 8 + 8 * pre.length ∧ env' = [some (.d p.e), some (.d (.tuple [.int 0, .tuple R])), some (.d (.tuple R)), some (.r S.length), a, b, c, d, e', none, none]) (pre ++ [x]) env' S' := by
    rintro pre x post env S1 hx ⟨acc, ex, a, b, c, d, e', rfl, hacc, hal, rfl⟩
    have hm : x ∈ List.zipIdx p.terms := by rw [hx]; simp
    have hz := List.mem_zipIdx hm
    have hn : x.2 < p.terms.length := by have := hz.2.1; omega
    have ht : p.terms[x.2]? = some x.1 := by rw [hz.2.2]; simp [hn]
    have hg := hRg _ _ ht
    have hp : pre.length ≤ 3 := by
      have : (List.zipIdx p.terms).length = p.terms.length := List.length_zipIdx
      rw [hx] at this
      simp at this
      have := po.small.terms
      omega
    have hcl := po.cl _ (List.mem_of_getElem? ht)
    obtain ⟨T0, hT0⟩ : ∃ T0, S ++ .lst acc :: ex = T0 := ⟨_, rfl⟩
    have k0 : S.length < T0.length := by rw [← hT0]; simp
    have k1 : ∀ xs, (T0 ++ [So.lst xs])[S.length]? = some (.lst acc) := fun xs => by rw [List.getElem?_append_left k0, ← hT0]; simp
    have k2 : ∀ env xs, env[3]? = some (some (.r S.length)) → lstAt S.length env (T0 ++ [.lst xs]) 3 = some (S.length, acc) := fun env xs h => lstAt_at h (Nat.le_refl _) (k1 xs)
    have k3 : ∀ env xs, env[8]? = some (some (.r T0.length)) → lstAt S.length env (T0 ++ [.lst xs]) 8 = some (T0.length, xs) := fun env xs h => lstAt_at h (by omega) (by simp)
    have k4 : ∀ env xs ys, xs.length + ys.length ≤ LIM → pushIf env (T0 ++ [.lst xs]) ys (T0.length, xs) = .nx env (T0 ++ [.lst (xs ++ ys)]) := fun env xs ys h => by rw [pushIf_at h]; simp
    have k5 : ∀ env xs ys, acc.length + ys.length ≤ LIM → pushIf env (T0 ++ [.lst xs]) ys (S.length, acc) = .nx env (S ++ .lst (acc ++ ys) :: (ex ++ [.lst xs])) := fun env xs ys h => by
      rw [pushIf_at h, ← hT0]
      simp
    rw [hT0]
    have c1 : ((x.2 : Int) + 1) = ((x.2 + 1 : Nat) : Int) := by omega
    have b1 : min x.2 R.length + 1 ≤ LIM := by unfold LIM; omega
    have b2 : min x.2 R.length + 1 + (R.length - (x.2 + 1)) ≤ LIM := by unfold LIM; omega
    have b3 : acc.length + 8 ≤ LIM := by unfold LIM; omega
    have b4 : (8 : Nat) ≤ LIM := by decide
    have b5 : (7 : Nat) ≤ LIM := by decide
    have hcomp : ∀ (T1 : Sto) (env : Env), env[2]? = some (some (.d (.tuple R))) → env[4]? = some (some (.d (.int x.2))) → env.length = 11 →
        compGo (compF O S.length [9] (.v 9) env none (.tup (.cons (.con (.int 0)) (.cons (.bin .add (.bin .add (.sli (.var 2) none (some (.var 4))) (.tup (.cons (.var 9) .nil))) (.sli (.var 2) (some (.bin .add (.var 4) (.con (.int 1)))) none)) .nil)))) (badRows x.1) T1 = .ok ((badRows x.1).map (putRow R x.2)) T1 := by
      intro T1 env h2 h4 hl
      rw [comp_all (fun d => some (putRow R x.2 d)) _ _ (fun d _ => ?_), fm_map]
      match env, hl, h2, h4 with
      | [x0, x1, x2, x3, x4, x5, x6, x7, x8, x9, x10], _, h2', h4' =>
        obtain rfl : x2 = some (.d (.tuple R)) := by simpa using h2'
        obtain rfl : x4 = some (.d (.int x.2)) := by simpa using h4'
        simp [compF, cutL_pre, b1]
        rw [c1, cutL_suf]
        simp [b2, putRow]
    refine ⟨[some (.d p.e), some (.d (.tuple [.int 0, .tuple R])), some (.d (.tuple R)), some (.r S.length), some (.d (.int x.2)), some (.d x.1.e), some (.d (.int x.1.days)), some (.d (.int (fresh x.1).2)), some (.r T0.length), none, none], S ++ .lst (acc ++ (badRows x.1).map (putRow R x.2)) :: (ex ++ [.lst (badRows x.1)]), ?_, acc ++ (badRows x.1).map (putRow R x.2), ex ++ [.lst (badRows x.1)], _, _, _, _, _, rfl, ?_, ?_, rfl⟩
    · by_cases h0 : x.1.cl = 0
      · have hbr : badRows x.1 = [.tuple [.int (x.1.days + 1), .int (fresh x.1).2], .tuple [.int (-1), .int (fresh x.1).2], .tuple [.int x.1.days, .int ((fresh x.1).2 + 1)], .tuple [.int x.1.days], .list [.int x.1.days, .int (fresh x.1).2], .tuple [.int x.1.days, .int (-2)], .tuple [.bool true, .int (fresh x.1).2], .tuple [.int x.1.days, .int 0]] := by simp [badRows, h0]
        rw [hbr] at hcomp ⊢
        simp [loopF, judgedB, b__law_judged, -idx_t, -idx_l, hg, k2, k3, k4, k5, t4, h0, ev_comp, b3, b4, b5, hcomp]
      · have hbr : badRows x.1 = [.tuple [.int (x.1.days + 1), .int (fresh x.1).2], .tuple [.int (-1), .int (fresh x.1).2], .tuple [.int x.1.days, .int ((fresh x.1).2 + 1)], .tuple [.int x.1.days], .list [.int x.1.days, .int (fresh x.1).2], .tuple [.int x.1.days, .int (-2)], .tuple [.bool true, .int (fresh x.1).2], .tuple [.int x.1.days, .int (-1)]] := by simp [badRows, h0]
        rw [hbr] at hcomp ⊢
        simp [loopF, judgedB, b__law_judged, -idx_t, -idx_l, hg, k2, k3, k4, k5, t4, h0, ev_comp, b3, b4, b5, hcomp]
    · intro y hy
      rcases List.mem_append.mp hy with hy | hy
      · exact hacc y hy
      · obtain ⟨d, hd, rfl⟩ := List.mem_map.mp hy
        exact put_bad hRl ht (badRows_bad hcl d hd)
    · simp [badRows]; omega
  obtain ⟨env', S', q, acc, ex, a, b, c, d, e', rfl, hacc, _, rfl⟩ := forGo_pre (α := Tm × Nat) (enc := fun x => .tuple [.int x.2, x.1.e]) (fun (pre : List (Tm × Nat)) (env' : Env) (S' : Sto) => ∃ acc ex a b c d e', S' = S ++ .lst acc :: ex ∧ (∀ x ∈ acc, isSt p x = false) ∧ acc.length ≤ 8 + 8 * pre.length ∧ env' = [some (.d p.e), some (.d (.tuple [.int 0, .tuple R])), some (.d (.tuple R)), some (.r S.length), a, b, c, d, e', none, none]) (List.zipIdx p.terms)
    [some (.d p.e), some (.d (.tuple [.int 0, .tuple R])), some (.d (.tuple R)), some (.r S.length), none, none, none, none, none, none, none] (S ++ [.lst [PyData.none, .tuple [.int 0], .list [.int 0, .tuple R], .tuple [.int 0, .list R], .tuple [.int (-1), .tuple R], .tuple [.int (gage p + 1), .tuple R], .tuple [.bool false, .tuple R], .tuple [.int 0, .tuple (R ++ [.tuple [.int 0, .int 0]])]]])
    ⟨_, [], none, none, none, none, none, rfl, hb0, by simp, rfl⟩ hs
  have bR : R.length + 1 ≤ LIM := by unfold LIM; omega
  have b4 : (8 : Nat) ≤ LIM := by decide
  simp [judgedB, b__law_judged] at q
  have i1 : idxD (.tuple [.int 0, .tuple R]) (.int 1) = some (.tuple R) := rfl
  have b6 : (6 : Nat) + 2 ≤ LIM := by decide
  simp [runD, d__law_judged, b__law_judged, exC_loop, -idx_t, -idx_l, h1, h2, h3, i1, e3, enumL_map, bR, b4, b6, q, ev_comp, hst]
  rw [comp_all (fun d => some (.bool true)) _ _ (by intro d hd; simp [compF, h3, hacc d hd])]
  have hbm : bools (acc.map fun _ => PyData.bool true) = some (acc.map fun _ => true) := boolsOf_map (fun _ => true) acc
  have hall : (acc.map fun _ => true).all id = true := by induction acc <;> simp_all
  simp [h3, hst, fm_map, hbm]
end
end Rf
namespace Rf
open PySem
theorem wh_run {O : Orc} {s : PyData} {k m c : Int} : ∀ (n : Nat) (r a : Int), 0 ≤ a → a ≤ n → ∃ r' a' : Int, ∀ (lo : Nat) (S0 : Sto) (f2 fu : Nat), n < fu →
    whGo (fun env S => (ev O lo (.and (.cmp .gt (.var 4) (.con (.int 0))) (.cmp .gt (.var 5) (.con (.int 0)))) env S).bind fun w S1 => (Rf.orNo (asB w) S1))
      (fun env S => exCs O f2 lo (.cons (.par 4 5 (.bin .fdiv (.var 4) (.con (.int 840))) (.bin .sub (.var 5) (.con (.int 1)))) .nil) env S) fu
      [some (.d s), some (.d (.int k)), some (.d (.int m)), some (.d (.int c)), some (.d (.int r)), some (.d (.int a)), none] S0 =
      .nx [some (.d s), some (.d (.int k)), some (.d (.int m)), some (.d (.int c)), some (.d (.int r')), some (.d (.int a')), none] S0 := by
    intro n
    induction n with
    | zero =>
      intro r a h0 h1
      refine ⟨r, a, ?_⟩
      intro lo S0 f2 fu h2
      obtain ⟨f, rfl⟩ : ∃ f, fu = f + 1 := ⟨fu - 1, by omega⟩
      have ha : ¬ (0 < a) := by simp at h1; omega
      by_cases hr : 0 < r
      · simp [whGo, ev, Rf.orNo, peek, cmpD, asB, hr, ha, Res.rs]
      · simp [whGo, ev, Rf.orNo, peek, cmpD, asB, hr, ha, Res.rs]
    | succ n ih =>
      intro r a h0 h1
      by_cases hr : 0 < r
      · by_cases ha : 0 < a
        · obtain ⟨r', a', e⟩ := ih (r / 840) (a - 1) (by omega) (by simp at h1; omega)
          refine ⟨r', a', ?_⟩
          intro lo S0 f2 fu h2
          obtain ⟨f, rfl⟩ : ∃ f, fu = f + 1 := ⟨fu - 1, by omega⟩
          rw [← e lo S0 f2 f (by omega)]
          simp [whGo, ev, Rf.orNo, peek, cmpD, binD, asB, hr, ha, Res.rs, exCs, exC, Rs.then, List.set]
        · exact ⟨r, a, by 
            intro lo S0 f2 fu h2
            obtain ⟨f, rfl⟩ : ∃ f, fu = f + 1 := ⟨fu - 1, by omega⟩
            simp [whGo, ev, Rf.orNo, peek, cmpD, asB, hr, ha, Res.rs]⟩
      · exact ⟨r, a, by 
          intro lo S0 f2 fu h2
          obtain ⟨f, rfl⟩ : ∃ f, fu = f + 1 := ⟨fu - 1, by omega⟩
          simp [whGo, ev, Rf.orNo, peek, cmpD, asB, hr, Res.rs]⟩
end Rf
namespace Rf
open PySem
theorem lay_ints : ∀ ns : List Int, PyData.canLayAll0 (ns.map PyData.int) = true
  | [] => rfl
  | n :: r => by
    show (true && PyData.canLayAll0 (r.map PyData.int)) = true
    rw [lay_ints r]; rfl
theorem dep_ints : ∀ ns : List Int, PyData.depthAll (ns.map PyData.int) = 0
  | [] => rfl
  | n :: r => by
    show max 0 (PyData.depthAll (r.map PyData.int)) = 0
    rw [dep_ints r]; rfl
theorem okD_ints (ns : List Int) : okD (.list (ns.map PyData.int)) = true := by
  show (PyData.canLayAll0 (ns.map PyData.int) && decide (PyData.depthAll (ns.map PyData.int) + 1 ≤ 64)) = true
  rw [lay_ints, dep_ints]; rfl
theorem eqv_nil (ns : List Int) : PyData.eqv (.list (ns.map PyData.int)) (.list []) = ns.isEmpty := by
  cases ns <;> rfl
theorem ixAt_in {n : Nat} {i : Int} (h0 : 0 ≤ i) (h1 : i < n) : ixAt n i = some i.toNat := by
  unfold ixAt
  rw [if_pos h0, if_pos h1]
theorem pick_run {O : Orc} {fu : Nat} (ns : List Int) (h63 : ns.length ≤ 63) (hf : 901 < fu) : ∀ k m : Int, 0 ≤ k → k ≤ 900 → 0 < m → ∃ v : Int, 0 ≤ v ∧ v < m ∧ ∀ S : Sto, runD O fu d__law_pick [.d (.list (ns.map .int)), .d (.int k), .d (.int m)] S = .d (.int v) := by
  intro k m k0 k1 m0
  have cell : ∃ c : Int, ∀ S : Sto, (ev O S.length (.ite (.cmp .ne (.var 0) (.lst .nil)) (.idx (.var 0) (.bin .mod (.bi .int (.cons (.var 1) .nil)) (.bi .len (.cons (.var 0) .nil)))) (.con (.int 0))) [some (.d (.list (ns.map .int))), some (.d (.int k)), some (.d (.int m)), none, none, none, none] S) = .ok (.d (.int c)) S := by
    cases ns with
    | nil => exact ⟨0, fun _ => rfl⟩
    | cons n r =>
      have hl : (0 : Int) < ((n :: r).map PyData.int).length := by simp
      have h0 : 0 ≤ k % (((n :: r).map PyData.int).length : Int) := Int.emod_nonneg _ (by omega)
      have h1 : k % (((n :: r).map PyData.int).length : Int) < (((n :: r).map PyData.int).length : Int) := Int.emod_lt_of_pos _ hl
      have hx := ixAt_in (n := ((n :: r).map PyData.int).length) h0 h1
      obtain ⟨j, hj⟩ : ∃ j, (k % (((n :: r).map PyData.int).length : Int)).toNat = j := ⟨_, rfl⟩
      have hjl : j < (n :: r).length := by simp at h1 h0 hj ⊢; omega
      have hg : ((n :: r).map PyData.int)[j]? = some (.int ((n :: r)[j])) := by
        rw [List.getElem?_map, List.getElem?_eq_getElem hjl]; rfl
      refine ⟨(n :: r)[j], fun S => ?_⟩
      have ne := eqv_nil (n :: r)
      have okl := okD_ints (n :: r)
      have okn : okD (.list []) = true := rfl
      have hl' : 0 < ((n :: r).map PyData.int).length := by simp
      generalize ((n :: r).map PyData.int) = xs at *
      simp [ev, evs, peek, peeks, Rf.orNo, cmpD, okl, okn, ne, asB, biD, binD, idxD, hl', hx, hj, hg, toDs]
  obtain ⟨c, hc⟩ := cell
  have hlen : ((ns.map PyData.int).length : Int) = ns.length := by simp
  obtain ⟨q, hq, hq0, hq1⟩ : ∃ q : Int, (if (1 : Int) > (ns.length : Int) then (1 : Int) else (ns.length : Int)) = q ∧ 0 < q ∧ q < 2 ^ 64 := by
    refine ⟨_, rfl, ?_, ?_⟩ <;> split <;> omega
  have ha0 : 0 ≤ k / q := Int.ediv_nonneg k0 (by omega)
  have ha1 : k / q ≤ 900 := Int.le_trans (Int.ediv_le_self _ k0) k1
  obtain ⟨r', a', hw⟩ := wh_run (O := O) (s := .list (ns.map .int)) (k := k) (m := m) (c := c) 900 (c / 10 ^ 18) (k / q) ha0 (by omega)
  have m1 : ∀ x : Int, 0 ≤ x % m ∧ x % m < m := fun x => ⟨Int.emod_nonneg _ (by omega), Int.emod_lt_of_pos _ m0⟩
  generalize hgc : (E.ite (.cmp .ne (.var 0) (.lst .nil)) (.idx (.var 0) (.bin .mod (.bi .int (.cons (.var 1) .nil)) (.bi .len (.cons (.var 0) .nil)))) (.con (.int 0))) = gc at hc
  generalize hgw : (C.whl (.and (.cmp .gt (.var 4) (.con (.int 0))) (.cmp .gt (.var 5) (.con (.int 0)))) (.cons (.par 4 5 (.bin .fdiv (.var 4) (.con (.int 840))) (.bin .sub (.var 5) (.con (.int 1)))) .nil)) = gw
  have hw2 : ∀ S : Sto, exC O fu S.length gw [some (.d (.list (ns.map .int))), some (.d (.int k)), some (.d (.int m)), some (.d (.int c)), some (.d (.int (c / 10 ^ 18))), some (.d (.int (k / q))), none] S =
      .nx [some (.d (.list (ns.map .int))), some (.d (.int k)), some (.d (.int m)), some (.d (.int c)), some (.d (.int r')), some (.d (.int a')), none] S := by
    intro S
    rw [← hgw]
    simp only [exC]
    exact hw _ _ _ _ (by omega)
  have hb : b__law_pick = .cons (.set 3 gc) (.cons (.par 4 5 (.bin .fdiv (.var 3) (.bin .pow (.con (.int 10)) (.con (.int 18)))) (.bin .fdiv (.var 1) (.bi .max (.cons (.bi .len (.cons (.var 0) .nil)) (.cons (.con (.int 1)) .nil))))) (.cons gw
    (.cons (.ife (.cmp .gt (.var 4) (.con (.int 0))) (.cons (.ret (.bin .mod (.bi .int (.cons (.bin .mod (.bi .int (.cons (.var 4) .nil)) (.con (.int 840))) .nil)) (.var 2))) .nil) .nil) (.cons (.set 6 (.bin .mod (.bi .int (.cons (.bin .mul (.bin .add (.bin .mul (.var 3) (.con (.int 31))) (.bin .mul (.con (.int 6151)) (.bin .add (.var 1) (.con (.int 1))))) (.con (.int 40692))) .nil)) (.con (.int 2147483399)))) (.cons (.ret (.bin .mod (.bi .int (.cons (.bin .mod (.bi .int (.cons (.bin .add (.bin .mul (.var 6) (.var 6)) (.bin .fdiv (.var 6) (.con (.int 31)))) .nil)) (.con (.int 2147483629))) .nil)) (.var 2))) .nil))))) := by
    rw [← hgc, ← hgw]; rfl
  have h3 : ∀ S : Sto, exC O fu S.length (.par 4 5 (.bin .fdiv (.var 3) (.bin .pow (.con (.int 10)) (.con (.int 18)))) (.bin .fdiv (.var 1) (.bi .max (.cons (.bi .len (.cons (.var 0) .nil)) (.cons (.con (.int 1)) .nil)))))
      [some (.d (.list (ns.map .int))), some (.d (.int k)), some (.d (.int m)), some (.d (.int c)), none, none, none] S =
      .nx [some (.d (.list (ns.map .int))), some (.d (.int k)), some (.d (.int m)), some (.d (.int c)), some (.d (.int (c / 10 ^ 18))), some (.d (.int (k / q))), none] S := by
    intro S
    have e10 : binD .pow (.int 10) (.int 18) = some (.int (10 ^ 18)) := rfl
    have ed : binD .fdiv (.int c) (.int (10 ^ 18)) = some (.int (c / 10 ^ 18)) := by
      show (if 0 < (10 : Int) ^ 18 ∧ (10 : Int) ^ 18 < 2 ^ 64 then some (PyData.int (c / 10 ^ 18)) else none) = _
      rw [if_pos (by decide)]
    have em : biD .max [.int ((ns.map PyData.int).length : Int), .int 1] = some (.int q) := by
      show some (PyData.int (if (1 : Int) > ((ns.map PyData.int).length : Int) then (1 : Int) else ((ns.map PyData.int).length : Int))) = _
      rw [hlen, hq]
    have ek : binD .fdiv (.int k) (.int q) = some (.int (k / q)) := by
      show (if 0 < q ∧ q < 2 ^ 64 then some (PyData.int (k / q)) else none) = _
      rw [if_pos ⟨hq0, hq1⟩]
    have el : biD .len [.list (ns.map PyData.int)] = some (.int ((ns.map PyData.int).length : Int)) := rfl
    generalize ns.map PyData.int = xs at *
    have e11 : binD .pow (.int 10) (.int 18) = some (.int 1000000000000000000) := rfl
    have ed2 : binD .fdiv (.int c) (.int 1000000000000000000) = some (.int (c / 1000000000000000000)) := ed
    simp [exC, ev, evs, peek, peeks, Rf.orNo, e11, ed2, em, ek, el, Res.rs, List.set]
  have hrun : ∀ (S : Sto) (rest : Cs) (r : Rs), exCs O fu S.length rest [some (.d (.list (ns.map .int))), some (.d (.int k)), some (.d (.int m)), some (.d (.int c)), some (.d (.int r')), some (.d (.int a')), none] S = r →
      exCs O fu S.length (.cons (.set 3 gc) (.cons (.par 4 5 (.bin .fdiv (.var 3) (.bin .pow (.con (.int 10)) (.con (.int 18)))) (.bin .fdiv (.var 1) (.bi .max (.cons (.bi .len (.cons (.var 0) .nil)) (.cons (.con (.int 1)) .nil))))) (.cons gw rest))) [some (.d (.list (ns.map .int))), some (.d (.int k)), some (.d (.int m)), none, none, none, none] S = r := by
    rintro S rest r rfl
    have s1 : exC O fu S.length (.set 3 gc) [some (.d (.list (ns.map .int))), some (.d (.int k)), some (.d (.int m)), none, none, none, none] S = .nx [some (.d (.list (ns.map .int))), some (.d (.int k)), some (.d (.int m)), some (.d (.int c)), none, none, none] S := by
      simp only [exC]
      rw [hc]; rfl
    simp only [exCs]
    rw [s1]
    simp only [then_nx]
    rw [h3]
    simp only [then_nx]
    rw [hw2]
    rfl
  have fin : ∀ v : Int, 0 ≤ v → v < m → (∀ S : Sto, exCs O fu S.length b__law_pick [some (.d (.list (ns.map .int))), some (.d (.int k)), some (.d (.int m)), none, none, none, none] S = .rt (.d (.int v)) S) → ∃ v : Int, 0 ≤ v ∧ v < m ∧ ∀ S : Sto, runD O fu d__law_pick [.d (.list (ns.map .int)), .d (.int k), .d (.int m)] S = .d (.int v) := by
    intro v v0 v1 e
    refine ⟨v, v0, v1, fun S => ?_⟩
    show outD S.length (exCs O fu S.length b__law_pick [some (.d (.list (ns.map .int))), some (.d (.int k)), some (.d (.int m)), none, none, none, none] S) = _
    rw [e]; rfl
  by_cases hr : 0 < r'
  · refine fin ((r' % 840) % m) (m1 _).1 (m1 _).2 fun S => ?_
    rw [hb]
    refine hrun S _ _ ?_
    simp [exCs, exC, ev, evs, peek, peeks, Rf.orNo, cmpD, binD, biD, asB, hr, m0, Res.rs, Rs.then]
  · obtain ⟨d, hd, d0, d1⟩ : ∃ d : Int, ((c * 31 + 6151 * (k + 1)) * 40692) % 2147483399 = d ∧ 0 ≤ d ∧ d < 2147483399 := ⟨_, rfl, Int.emod_nonneg _ (by omega), Int.emod_lt_of_pos _ (by omega)⟩
    refine fin (((d * d + d / 31) % 2147483629) % m) (m1 _).1 (m1 _).2 fun S => ?_
    rw [hb]
    refine hrun S _ _ ?_
    have hm : (-(2 : Int) ^ 64 < d ∧ d < 2 ^ 64) := by omega
    have b1 : binD .mul (.int c) (.int 31) = some (.int (c * 31)) := by
      show (if _ then _ else _) = _
      rw [if_pos (.inr (by decide))]
    have b2 : binD .mul (.int 6151) (.int (k + 1)) = some (.int (6151 * (k + 1))) := by
      show (if (-(2 ^ 64) < (6151 : Int) ∧ (6151 : Int) < 2 ^ 64) ∨ (-(2 ^ 64) < k + 1 ∧ k + 1 < 2 ^ 64) then some (PyData.int (6151 * (k + 1))) else none) = _
      rw [if_pos (.inl (by decide))]
    have b3 : binD .mul (.int (c * 31 + 6151 * (k + 1))) (.int 40692) = some (.int ((c * 31 + 6151 * (k + 1)) * 40692)) := by
      show (if _ then _ else _) = _
      rw [if_pos (.inr (by decide))]
    have b4 : binD .mul (.int d) (.int d) = some (.int (d * d)) := by
      show (if _ then _ else _) = _
      rw [if_pos (.inl hm)]
    have b5 : ∀ x y : Int, binD .add (.int x) (.int y) = some (.int (x + y)) := fun _ _ => rfl
    have b6 : ∀ x : Int, binD .mod (.int x) (.int 2147483399) = some (.int (x % 2147483399)) := fun _ => rfl
    have b7 : ∀ x : Int, binD .mod (.int x) (.int 2147483629) = some (.int (x % 2147483629)) := fun _ => rfl
    have b8 : ∀ x : Int, binD .mod (.int x) (.int m) = some (.int (x % m)) := fun _ => by
      show (if _ then _ else _) = _
      rw [if_pos m0]
    have b9 : binD .fdiv (.int d) (.int 31) = some (.int (d / 31)) := rfl
    have b0 : ∀ x : Int, biD .int [.int x] = some (.int x) := fun _ => rfl
    simp [exCs, exC, ev, evs, peek, peeks, Rf.orNo, cmpD, asB, hr, Res.rs, Rs.then, List.set, b0, b1, b2, b3, b4, b5, b6, b7, b8, b9, hd]
end Rf
namespace Rf
open PySem
/-- whatever gives picks -/
def PickOk (O : Orc) (s : PyData) : Prop := ∀ k m : Int, 0 ≤ k → k ≤ 900 → 0 < m → ∃ v : Int, 0 ≤ v ∧ v < m ∧ ∀ S : Sto, O "_law_pick" [.d s, .d (.int k), .d (.int m)] S = .d (.int v)
def kindsV (p : Int) : Str := if p = 0 then "a" else if p = 1 then "b" else "ab"
def renV (p : Int) : Str := if p = 0 then "anew" else "rest"
def termT (payer : Str) (p0 p1 p2 p3 p4 : Int) : Tm := ⟨payer, 1 + p3, kindsV p0, renV p1, p2 / 2, decide (p4 = 0)⟩
def IsTm (payer : Str) (t : Tm) : Prop := ∃ p0 p1 p2 p3 p4 : Int, (0 ≤ p0 ∧ p0 < 4) ∧ (0 ≤ p1 ∧ p1 < 2) ∧ (0 ≤ p2 ∧ p2 < 3) ∧ (0 ≤ p3 ∧ p3 < 5) ∧ (0 ≤ p4 ∧ p4 < 2) ∧ t = termT payer p0 p1 p2 p3 p4
inductive IsTs : List Tm → Prop where
  | nil : IsTs []
  | one {t : Tm} : IsTm "maker" t → IsTs [t]
  | two {t u : Tm} : IsTm "maker" t → IsTm "seller" u → IsTs [t, u]
def livesV (f l g : Int) : List (Str × Int) := if 0 < g then [("a", f), ("b", l)] else [("a", f)]
def leastV (f l g : Int) : Int := if 0 < g then (if l < f then l else f) else f
def mostV (f l g m : Int) : Int := if 0 < (if m < 4 then m else 3) ∧ (if m < 4 then m else 3) < leastV f l g then 3 else (if m < 4 then m else 3)
def IsPt (p : Pt) : Prop := ∃ pr f l g m : Int, (0 ≤ pr ∧ pr < 9) ∧ (0 ≤ f ∧ f < 3) ∧ (0 ≤ l ∧ l < 3) ∧ (0 ≤ g ∧ g < 4) ∧ (0 ≤ m ∧ m < 5) ∧ IsTs p.terms ∧ p = ⟨1 + pr, livesV f l g, mostV f l g m, p.terms⟩
def TermOk (O : Orc) (s : PyData) : Prop := ∀ (a days : Int) (payer : Str), 0 ≤ a → a ≤ 890 → 0 < days → days ≤ 5 → ∃ t : Tm, IsTm payer t ∧ ∀ S : Sto, O "_law_term" [.d s, .d (.int a), .d (.str payer), .d (.int days)] S = .d t.e
theorem idx4 {p : Int} (h0 : 0 ≤ p) (h1 : p < 4) : idxD (.tuple [.str (Str.ofString "a"), .str (Str.ofString "b"), .str (Str.ofString "ab"), .str (Str.ofString "ab")]) (.int p) = some (.str (kindsV p)) := by
  obtain rfl | rfl | rfl | rfl : p = 0 ∨ p = 1 ∨ p = 2 ∨ p = 3 := by omega
  all_goals rfl
theorem idx2 {p : Int} (h0 : 0 ≤ p) (h1 : p < 2) : idxD (.tuple [.str (Str.ofString "anew"), .str (Str.ofString "rest")]) (.int p) = some (.str (renV p)) := by
  obtain rfl | rfl : p = 0 ∨ p = 1 := by omega
  all_goals rfl
theorem idx5 {p : Int} (h0 : 0 ≤ p) (h1 : p < 5) : idxD (.tuple [.int 0, .int 1, .int 2, .int 3, .int 3]) (.int p) = some (.int (if p < 4 then p else 3)) := by
  obtain rfl | rfl | rfl | rfl | rfl : p = 0 ∨ p = 1 ∨ p = 2 ∨ p = 3 ∨ p = 4 := by omega
  all_goals rfl
theorem idxM0 : idxD (.tuple [.str (Str.ofString "maker"), .str (Str.ofString "seller")]) (.int 0) = some (.str "maker") := rfl
theorem idxM1 : idxD (.tuple [.str (Str.ofString "maker"), .str (Str.ofString "seller")]) (.int 1) = some (.str "seller") := rfl
section
variable {O : Orc} {fu : Nat}
theorem term_run {s : PyData} (h : PickOk O s) {a days : Int} {payer : Str} (a0 : 0 ≤ a) (a1 : a ≤ 890) (d0 : 0 < days) (d5 : days ≤ 5) :
    ∃ t : Tm, IsTm payer t ∧ ∀ S : Sto, runD O fu d__law_term [.d s, .d (.int a), .d (.str payer), .d (.int days)] S = .d t.e := by
  obtain ⟨p0, x0, y0, e0⟩ := h a 4 a0 (by omega) (by omega)
  obtain ⟨p1, x1, y1, e1⟩ := h (a + 1) 2 (by omega) (by omega) (by omega)
  obtain ⟨p2, x2, y2, e2⟩ := h (a + 2) 3 (by omega) (by omega) (by omega)
  obtain ⟨p3, x3, y3, e3⟩ := h (a + 3) days (by omega) (by omega) (by omega)
  obtain ⟨p4, x4, y4, e4⟩ := h (a + 4) 2 (by omega) (by omega) (by omega)
  refine ⟨termT payer p0 p1 p2 p3 p4, ⟨p0, p1, p2, p3, p4, ⟨x0, y0⟩, ⟨x1, y1⟩, ⟨x2, y2⟩, ⟨x3, by omega⟩, ⟨x4, y4⟩, rfl⟩, fun S => ?_⟩
  have i0 := idx4 x0 y0
  have i1 := idx2 x1 y1
  have b2 : binD .fdiv (.int p2) (.int 2) = some (.int (p2 / 2)) := rfl
  simp [runD, d__law_term, b__law_term, -idx_t, -idx_l, b2, e0, e1, e2, e3, e4, i0, i1, termT, Tm.e]
  try (by_cases q : p4 = 0 <;> simp [q])
theorem idxP1 (x y : PyData) : idxD (.tuple [x, y]) (.int 1) = some y := rfl
theorem mul6 (x : Int) : binD .mul (.int 6) (.int x) = some (.int (6 * x)) := by
  show (if (-(2 ^ 64) < (6 : Int) ∧ (6 : Int) < 2 ^ 64) ∨ (-(2 ^ 64) < x ∧ x < 2 ^ 64) then some (PyData.int (6 * x)) else none) = _
  rw [if_pos (.inl (by decide))]
theorem part_run {s : PyData} (h : PickOk O s) (ht : TermOk O s) {a n : Int} (a0 : 0 ≤ a) (a1 : a ≤ 800) (n0 : 0 ≤ n) (n1 : n < 3) :
    ∃ p : Pt, IsPt p ∧ ∀ S : Sto, runD O fu d__law_part [.d s, .d (.int a), .d (.int n)] S = .d p.e := by
  obtain ⟨p0, x0, y0, e0⟩ := h a 3 a0 (by omega) (by omega)
  obtain ⟨p1, x1, y1, e1⟩ := h (a + 1) 3 (by omega) (by omega) (by omega)
  obtain ⟨p2, x2, y2, e2⟩ := h (a + 2) 4 (by omega) (by omega) (by omega)
  obtain ⟨p3, x3, y3, e3⟩ := h (a + 3) 5 (by omega) (by omega) (by omega)
  obtain ⟨p4, x4, y4, e4⟩ := h (a + 4) 9 (by omega) (by omega) (by omega)
  have i3 := idx5 x3 y3
  obtain ⟨mx, hmx⟩ : ∃ mx, (if p3 < 4 then p3 else 3) = mx := ⟨_, rfl⟩
  rw [hmx] at i3
  have key : ∀ ts : List Tm, IsTs ts → (∀ (S : Sto) (v3 v4 v5 v6 v7 v8 v9 v10 : Option Wd),
      ev O S.length (.comp [10] (.v 10) (.range1 (.cons (.var 2) .nil)) none (.call "_law_term" (.cons (.var 0) (.cons (.bin .add (.bin .add (.var 1) (.con (.int 5))) (.bin .mul (.con (.int 6)) (.var 10))) (.cons (.idx (.tup (.cons (.con (.str (Str.ofString "maker"))) (.cons (.con (.str (Str.ofString "seller"))) .nil))) (.var 10)) (.cons (.ite (.cmp .gt (.var 2) (.con (.int 1))) (.con (.int 3)) (.con (.int 5))) .nil)))))) [some (.d s), some (.d (.int a)), some (.d (.int n)), v3, v4, v5, v6, v7, v8, v9, v10] S = .ok (.d (.list (ts.map Tm.e))) S) →
      ∃ p : Pt, IsPt p ∧ ∀ S : Sto, runD O fu d__law_part [.d s, .d (.int a), .d (.int n)] S = .d p.e := by
    intro ts hts hc
    refine ⟨⟨1 + p4, livesV p0 p1 p2, mostV p0 p1 p2 p3, ts⟩, ⟨p4, p0, p1, p2, p3, ⟨x4, y4⟩, ⟨x0, y0⟩, ⟨x1, y1⟩, ⟨x2, y2⟩, ⟨x3, y3⟩, hts, rfl⟩, fun S => ?_⟩
    generalize hg : (E.comp [10] (.v 10) (.range1 (.cons (.var 2) .nil)) none (.call "_law_term" (.cons (.var 0) (.cons (.bin .add (.bin .add (.var 1) (.con (.int 5))) (.bin .mul (.con (.int 6)) (.var 10))) (.cons (.idx (.tup (.cons (.con (.str (Str.ofString "maker"))) (.cons (.con (.str (Str.ofString "seller"))) .nil))) (.var 10)) (.cons (.ite (.cmp .gt (.var 2) (.con (.int 1))) (.con (.int 3)) (.con (.int 5))) .nil)))))) = ge at hc
    have hb : b__law_part = b__law_part := rfl
    conv at hb => rhs; unfold b__law_part
    rw [hg] at hb
    by_cases hp : 0 < p2 <;> by_cases hl : p1 < p0 <;> by_cases h1 : 0 < mx <;> by_cases h2 : mx < p1 <;> by_cases h3 : mx < p0 <;>
    simp [runD, d__law_part, hb, hc, -idx_t, -idx_l, e0, e1, e2, e3, e4, i3, hmx, hp, hl, h1, h2, h3, livesV, mostV, leastV, Pt.e, lifeE, ev_comp, compGo, compF, idxP1, biD, Rf.intsOf, minL, optC]
  obtain rfl | rfl | rfl : n = 0 ∨ n = 1 ∨ n = 2 := by omega
  · refine key [] .nil fun S v3 v4 v5 v6 v7 v8 v9 v10 => ?_
    simp [ev_comp, compGo, rangeL, rngB, LIM]
  · obtain ⟨t, ht1, et⟩ := ht (a + 5) 5 "maker" (by omega) (by omega) (by omega) (by omega)
    refine key [t] (.one ht1) fun S v3 v4 v5 v6 v7 v8 v9 v10 => ?_
    simp [ev_comp, compGo, compF, rangeL, rngB, LIM, mul6, -idx_t, -idx_l, idxM0, idxM1, et, optC]
  · obtain ⟨t, ht1, et⟩ := ht (a + 5) 3 "maker" (by omega) (by omega) (by omega) (by omega)
    obtain ⟨u, hu1, eu⟩ := ht (a + 5 + 6) 3 "seller" (by omega) (by omega) (by omega) (by omega)
    refine key [t, u] (.two ht1 hu1) fun S v3 v4 v5 v6 v7 v8 v9 v10 => ?_
    simp [ev_comp, compGo, compF, rangeL, rngB, LIM, mul6, -idx_t, -idx_l, idxM0, idxM1, et, eu, optC]
end
end Rf
namespace Rf
open PySem
def KN (O : Orc) : Prop := ∀ (d : PyData) (a b : Int) (S : Sto), O "is_number" [.d d, .d (.int a), .d (.int b)] S = .d (.bool (isNum a b d))
def KT (O : Orc) : Prop := ∀ (d : PyData) (a b : Int) (S : Sto), O "is_tuple" [.d d, .d (.int a), .d (.int b)] S = .d (.bool (isTup a b d))
section
variable {O : Orc} {fu : Nat} {S : Sto}
theorem k_a : runD O fu d_is_kinds [.d (.str "a")] S = .d (.bool true) := by kernel_rfl
theorem k_b : runD O fu d_is_kinds [.d (.str "b")] S = .d (.bool true) := by kernel_rfl
theorem k_ab : runD O fu d_is_kinds [.d (.str "ab")] S = .d (.bool true) := by kernel_rfl
theorem r_is_kinds {p : Int} (h0 : 0 ≤ p) (h1 : p < 4) : runD O fu d_is_kinds [.d (.str (kindsV p))] S = .d (.bool true) := by
  obtain rfl | rfl | rfl | rfl : p = 0 ∨ p = 1 ∨ p = 2 ∨ p = 3 := by omega
  · exact k_a
  · exact k_b
  · exact k_ab
  · exact k_ab
theorem y_m : runD O fu d_is_word [.d (.str "maker")] S = .d (.bool true) := by kernel_rfl
theorem y_s : runD O fu d_is_word [.d (.str "seller")] S = .d (.bool true) := by kernel_rfl
theorem kd_a : runD O fu d_is_kind [.d (.str "a")] S = .d (.bool true) := by kernel_rfl
theorem kd_b : runD O fu d_is_kind [.d (.str "b")] S = .d (.bool true) := by kernel_rfl
theorem kd_c : runD O fu d_is_kind [.d (.str "c")] S = .d (.bool true) := by kernel_rfl
theorem ren_in {p : Int} (h0 : 0 ≤ p) (h1 : p < 2) : cmpD .isin (.str (renV p)) g_RENEWALS = some true := by
  obtain rfl | rfl : p = 0 ∨ p = 1 := by omega
  all_goals decide +kernel
theorem r_is_term {payer : Str} (hy : ∀ S, O "is_word" [.d (.str payer)] S = .d (.bool true)) (hn : KN O) (ht : KT O) (hk : ∀ p S, 0 ≤ p → p < 4 → O "is_kinds" [.d (.str (kindsV p))] S = .d (.bool true)) {t : Tm} (h : IsTm payer t) :
    runD O fu d_is_term [.d t.e] S = .d (.bool true) := by
  obtain ⟨p0, p1, p2, p3, p4, h0, h1, h2, h3, h4, rfl⟩ := h
  have i1 := ren_in h1.1 h1.2
  have k1 : isNum 1 6 (.int (1 + p3)) = true := by simp [isNum]; omega
  have k2 : isNum 0 2 (.int (p2 / 2)) = true := by simp [isNum]; omega
  have hn' := hn
  have ht' := ht
  unfold KN at hn'
  unfold KT at ht'
  simp [runD, d_is_term, b_is_term, termT, Tm.e, hy, hn', ht', isTup, k1, k2, hk _ _ h0.1 h0.2, i1, isiD]
theorem r_is_life {k : Str} {a : Int} (hk : ∀ S, O "is_kind" [.d (.str k)] S = .d (.bool true)) (hn : KN O) (ht : KT O) (h0 : 0 ≤ a) (h1 : a ≤ 6) :
    runD O fu d_is_life [.d (lifeE (k, a))] S = .d (.bool true) := by
  have k1 : isNum 0 6 (.int a) = true := by simp [isNum]; omega
  unfold KN at hn
  unfold KT at ht
  simp [runD, d_is_life, b_is_life, lifeE, hn, ht, isTup, k1, hk]
theorem jn1 : joinD (Str.ofString "") [Str.ofString "a"] = some (.str (Str.ofString "a")) := by kernel_rfl
theorem jn2 : joinD (Str.ofString "") [Str.ofString "a", Str.ofString "b"] = some (.str (Str.ofString "ab")) := by kernel_rfl
theorem kV0 : kindsV 0 = Str.ofString "a" := rfl
theorem kV2 : kindsV 2 = Str.ofString "ab" := rfl
theorem r_is_lives (hl : ∀ (k : Str) (a : Int) S, k = "a" ∨ k = "b" → 0 ≤ a → a ≤ 6 → O "is_life" [.d (lifeE (k, a))] S = .d (.bool true)) (ht : KT O) (hk : ∀ p S, 0 ≤ p → p < 4 → O "is_kinds" [.d (.str (kindsV p))] S = .d (.bool true))
    {f l g : Int} (h0 : 0 ≤ f ∧ f < 3) (h1 : 0 ≤ l ∧ l < 3) : runD O fu d_is_lives [.d (.tuple ((livesV f l g).map lifeE))] S = .d (.bool true) := by
  have e1 := fun S => hl "a" f S (.inl rfl) h0.1 (by omega)
  have e2 := fun S => hl "b" l S (.inr rfl) h1.1 (by omega)
  have e3 := fun S => hk 0 S (by decide) (by decide)
  have e4 := fun S => hk 2 S (by decide) (by decide)
  unfold KT at ht
  simp only [lifeE] at e1 e2
  rw [kV0] at e3
  rw [kV2] at e4
  by_cases hg : 0 < g
  · simp [runD, d_is_lives, b_is_lives, livesV, hg, lifeE, ht, isTup, ev_comp, compGo, compF, e1, e2, optC, biD, Rf.bools, strsOf, jn1, jn2, e3, e4]
  · simp [runD, d_is_lives, b_is_lives, livesV, hg, lifeE, ht, isTup, ev_comp, compGo, compF, e1, e2, optC, biD, Rf.bools, strsOf, jn1, jn2, e3, e4]
theorem mostV_ok {f l g m : Int} (h0 : 0 ≤ f ∧ f < 3) (h1 : 0 ≤ l ∧ l < 3) (h4 : 0 ≤ m ∧ m < 5) : mostV f l g m = 0 ∨ (leastV f l g ≤ mostV f l g m ∧ mostV f l g m ≤ 3) := by
  unfold mostV leastV
  omega
theorem r_is_most (hn : KN O) {f l g m : Int} (h0 : 0 ≤ f ∧ f < 3) (h1 : 0 ≤ l ∧ l < 3) (h4 : 0 ≤ m ∧ m < 5) : runD O fu d_is_most [.d (.int (mostV f l g m)), .d (.tuple ((livesV f l g).map lifeE))] S = .d (.bool true) := by
  have hm := mostV_ok (g := g) h0 h1 h4
  unfold leastV at hm
  generalize mostV f l g m = M at *
  unfold KN at hn
  by_cases hz : M = 0
  · have k1 : isNum 0 0 (.int M) = true := by simp [isNum]; omega
    by_cases hg : 0 < g <;>
    simp [runD, d_is_most, b_is_most, livesV, hg, lifeE, ev_comp, compGo, compF, optC, biD, Rf.intsOf, minL, hn, k1]
  · have k1 : isNum 0 0 (.int M) = false := by simp [isNum]; omega
    by_cases hg : 0 < g
    · by_cases hl : l < f
      · have k2 : isNum l 8 (.int M) = true := by rw [if_pos hg, if_pos hl] at hm; simp [isNum]; omega
        simp [runD, d_is_most, b_is_most, livesV, hg, hl, lifeE, ev_comp, compGo, compF, optC, biD, Rf.intsOf, minL, hn, k1, k2]
      · have k2 : isNum f 8 (.int M) = true := by rw [if_pos hg, if_neg hl] at hm; simp [isNum]; omega
        simp [runD, d_is_most, b_is_most, livesV, hg, hl, lifeE, ev_comp, compGo, compF, optC, biD, Rf.intsOf, minL, hn, k1, k2]
    · have k2 : isNum f 8 (.int M) = true := by rw [if_neg hg] at hm; simp [isNum]; omega
      simp [runD, d_is_most, b_is_most, livesV, hg, lifeE, ev_comp, compGo, compF, optC, biD, Rf.intsOf, minL, hn, k1, k2]
theorem dd1 : (dedup [Str.ofString "maker"]).length = 1 := by decide +kernel
theorem dd2 : (dedup [Str.ofString "maker", Str.ofString "seller"]).length = 2 := by decide +kernel
theorem tm_idx {payer : Str} {t : Tm} (h : IsTm payer t) : idxD t.e (.int 0) = some (.str payer) := by
  obtain ⟨p0, p1, p2, p3, p4, _, _, _, _, _, rfl⟩ := h
  rfl
theorem ev_lset {lo : Nat} {env : Env} {S : Sto} (vs : List Nat) (t : T) (it : I) (x : E) : ev O lo (.lset vs t it x) env S = (evI O lo it env S).bind fun p S1 => if p.1.length ≤ 8 then (compGo (fun y S => (orNo (t.put y (wipeE env vs)) S).bind fun env1 S =>
      ((ev O lo x env1 S).bind fun w S3 => (orNo (asS w) S3).bind fun z _ => .ok (some (.str z)) S3).nox) p.1 S1).bind fun ys S2 => (orNo (strsOf ys) S2).bind fun zs _ => .ok (.d (.int (dedup zs).length)) S2 else .no := by simp only [ev]
theorem r_is_terms (ht : KT O) (hm : ∀ t S, IsTm "maker" t → O "is_term" [.d (Tm.e t)] S = .d (.bool true)) (hs : ∀ t S, IsTm "seller" t → O "is_term" [.d (Tm.e t)] S = .d (.bool true)) {ts : List Tm} (h : IsTs ts) :
    runD O fu d_is_terms [.d (.tuple (ts.map Tm.e))] S = .d (.bool true) := by
  unfold KT at ht
  cases h with
  | nil => simp [runD, d_is_terms, b_is_terms, ht, isTup, ev_comp, compGo, compF, ev_lset, biD, Rf.bools, strsOf, dedup]
  | one h1 =>
    have i1 := tm_idx h1
    have n1 := fun S => hm _ S h1
    simp [runD, d_is_terms, b_is_terms, ht, isTup, ev_comp, ev_lset, compGo, compF, optC, biD, Rf.bools, strsOf, dd1, -idx_t, -idx_l, i1, n1, asS]
  | two h1 h2 =>
    have i1 := tm_idx h1
    have n1 := fun S => hm _ S h1
    have i2 := tm_idx h2
    have n2 := fun S => hs _ S h2
    simp [runD, d_is_terms, b_is_terms, ht, isTup, ev_comp, ev_lset, compGo, compF, optC, biD, Rf.bools, strsOf, dd2, -idx_t, -idx_l, i1, n1, i2, n2, asS]
theorem r_is_part (hn : KN O) (ht : KT O) (hl : ∀ (f l g : Int) S, (0 ≤ f ∧ f < 3) → (0 ≤ l ∧ l < 3) → O "is_lives" [.d (.tuple ((livesV f l g).map lifeE))] S = .d (.bool true))
    (hm : ∀ (f l g m : Int) S, (0 ≤ f ∧ f < 3) → (0 ≤ l ∧ l < 3) → (0 ≤ m ∧ m < 5) → O "is_most" [.d (.int (mostV f l g m)), .d (.tuple ((livesV f l g).map lifeE))] S = .d (.bool true))
    (hs : ∀ ts S, IsTs ts → O "is_terms" [.d (.tuple (ts.map Tm.e))] S = .d (.bool true)) {p : Pt} (h : IsPt p) : runD O fu d_is_part [.d p.e] S = .d (.bool true) := by
  obtain ⟨pr, f, l, g, m, h0, h1, h2, h3, h4, h5, e⟩ := h
  have e2 : p.e = .tuple [.int (1 + pr), .tuple ((livesV f l g).map lifeE), .int (mostV f l g m), .tuple (p.terms.map Tm.e)] := by
    rw [e]; rfl
  have k1 : isNum 1 20 (.int (1 + pr)) = true := by simp [isNum]; omega
  unfold KN at hn
  unfold KT at ht
  have q1 := fun S => hl f l g S h1 h2
  have q2 := fun S => hm f l g m S h1 h2 h4
  have q3 := fun S => hs p.terms S h5
  rw [e2]
  generalize (livesV f l g).map lifeE = L at *
  generalize mostV f l g m = M at *
  generalize p.terms.map Tm.e = T at *
  simp [runD, d_is_part, b_is_part, hn, ht, isTup, k1, q1, q2, q3]
end
/-! ### a drawn part is small -/
theorem isTm_facts {payer : Str} {t : Tm} (h : IsTm payer t) : okD (.str t.ren) = true ∧ 1 ≤ t.days ∧ 0 ≤ t.cl := by
  obtain ⟨p0, p1, p2, p3, p4, h0, h1, h2, h3, h4, rfl⟩ := h
  refine ⟨?_, by show 1 ≤ 1 + p3; omega, by show 0 ≤ p2 / 2; omega⟩
  show okD (.str (renV p1)) = true
  obtain rfl | rfl : p1 = 0 ∨ p1 = 1 := by omega
  all_goals decide +kernel
theorem isTs_facts {ts : List Tm} (h : IsTs ts) : ts.length ≤ 3 ∧ ∀ t ∈ ts, okD (.str t.ren) = true ∧ 1 ≤ t.days ∧ 0 ≤ t.cl := by
  cases h with
  | nil => exact ⟨by simp, by simp⟩
  | one h1 => exact ⟨by simp, fun t ht => by rw [List.mem_singleton.mp ht]; exact isTm_facts h1⟩
  | two h1 h2 => exact ⟨by simp, fun t ht => by
      rcases List.mem_cons.mp ht with rfl | ht
      · exact isTm_facts h1
      · rw [List.mem_singleton.mp ht]; exact isTm_facts h2⟩
theorem ok_a : okD (.str (Str.ofString "a")) = true := by decide +kernel
theorem ok_b : okD (.str (Str.ofString "b")) = true := by decide +kernel
theorem ptOk {p : Pt} (h : IsPt p) : PtOk p := by
  obtain ⟨pr, f, l, g, m, h0, h1, h2, h3, h4, h5, e⟩ := h
  obtain ⟨a, b⟩ := isTs_facts h5
  have hl : p.lives = livesV f l g := by rw [e]
  have hm : p.most = mostV f l g m := by rw [e]
  have hk : ∀ x ∈ livesV f l g, okD (.str x.1) = true := by
    intro x hx
    unfold livesV at hx
    split at hx
    · rcases List.mem_cons.mp hx with rfl | hx
      · exact ok_a
      · rw [List.mem_singleton.mp hx]; exact ok_b
    · rw [List.mem_singleton.mp hx]; exact ok_a
  refine ⟨⟨by rw [hl]; unfold livesV; split <;> simp, by rw [hl]; unfold livesV; split <;> simp, a, by rw [hl]; exact hk, fun t ht => (b t ht).1⟩, fun t ht => (b t ht).2.1, fun t ht => (b t ht).2.2, ?_⟩
  unfold gage
  split
  · omega
  · rw [hl]; unfold livesV; split <;> simp [maxI, maxL] <;> (try split) <;> omega
end Rf
namespace Rf
open PySem
/-! ### tables of defs -/
def lk : List (String × Df) → String → Option Df
  | [], _ => none
  | p :: r, f => if f = p.1 then some p.2 else lk r f
def tailOf : List (String × Df) → String → List (String × Df)
  | [], _ => []
  | p :: r, f => if f = p.1 then r else tailOf r f
def okB : List (String × Df) → String → String → Bool
  | [], _, _ => false
  | p :: r, f, g => !(decide (g = p.1)) && (if f = p.1 then true else okB r f g)
theorem orc_hd {fu : Nat} {f : String} {d : Df} : ∀ {T : List (String × Df)}, lk T f = some d → ∀ ws S, orc fu T f ws S = runD (orc fu (tailOf T f)) fu d ws S
  | [], h => by cases h
  | p :: r, h => by
    intro ws S
    simp only [lk] at h
    simp only [orc, tailOf]
    split at h
    · rename_i e
      cases h
      rw [if_pos e, if_pos e]
    · rename_i e
      rw [if_neg e, if_neg e]
      exact orc_hd h ws S
theorem orc_tl {fu : Nat} {f g : String} : ∀ {T : List (String × Df)}, okB T f g = true → orc fu (tailOf T f) g = orc fu T g
  | [], h => by cases h
  | p :: r, h => by
    simp only [okB, Bool.and_eq_true, Bool.not_eq_true', decide_eq_false_iff_not] at h
    funext ws S
    simp only [tailOf, orc]
    rw [if_neg h.1]
    split
    · rfl
    · rename_i e
      rw [if_neg e] at h
      rw [orc_tl h.2]
/-- which defs a table holds, and what they call stands behind them -/
def hasAll (T : List (String × Df)) : List (String × Df) → Prop
  | [] => True
  | p :: r => lk T p.1 = some p.2 ∧ hasAll T r
theorem hasAll_mem {T : List (String × Df)} {f : String} {d : Df} : ∀ {L : List (String × Df)}, hasAll T L → lk L f = some d → lk T f = some d
  | [], _, h => by cases h
  | p :: r, h, q => by
    simp only [lk] at q
    split at q
    · rename_i e; cases q; rw [e]; exact h.1
    · exact hasAll_mem h.2 q
def daysL : List (String × Df) := [("is_tuple", d_is_tuple), ("is_word", d_is_word), ("is_number", d_is_number), ("is_kinds", d_is_kinds), ("is_term", d_is_term), ("is_terms", d_is_terms), ("is_kind", d_is_kind), ("is_life", d_is_life), ("is_lives", d_is_lives), ("is_most", d_is_most), ("is_part", d_is_part), ("check_part", d_check_part)]
def daysC : List (String × String) := [("is_term", "is_tuple"), ("is_term", "is_word"), ("is_term", "is_number"), ("is_term", "is_kinds"), ("is_terms", "is_tuple"), ("is_terms", "is_term"), ("is_life", "is_tuple"), ("is_life", "is_kind"), ("is_life", "is_number"), ("is_lives", "is_tuple"), ("is_lives", "is_life"), ("is_lives", "is_kinds"), ("is_most", "is_number"),
  ("is_part", "is_tuple"), ("is_part", "is_number"), ("is_part", "is_lives"), ("is_part", "is_most"), ("is_part", "is_terms"), ("check_part", "is_part")]
structure Tb (T : List (String × Df)) (L : List (String × Df)) (C : List (String × String)) : Prop where
  has : hasAll T L
  ok : C.all (fun p => okB T p.1 p.2) = true
theorem Tb.hd {T L C} (h : Tb T L C) {fu : Nat} {f : String} {d : Df} (q : lk L f = some d) (ws : List Wd) (S : Sto) : orc fu T f ws S = runD (orc fu (tailOf T f)) fu d ws S := orc_hd (hasAll_mem h.has q) ws S
theorem Tb.tl {T L C} (h : Tb T L C) {fu : Nat} {f g : String} (q : C.contains (f, g) = true) : orc fu (tailOf T f) g = orc fu T g :=
  orc_tl (List.all_eq_true.mp h.ok (f, g) (List.contains_iff_mem.mp q))
section
variable {T : List (String × Df)} {fu : Nat}
section
variable (D : Tb T daysL daysC)
include D
theorem c_num : KN (orc fu T) := fun d a b S => by rw [D.hd (f := "is_number") (d := d_is_number) (by kernel_rfl)]; exact r_is_number ..
theorem c_tup : KT (orc fu T) := fun d a b S => by rw [D.hd (f := "is_tuple") (d := d_is_tuple) (by kernel_rfl)]; exact r_is_tuple ..
theorem c_kinds : ∀ (p : Int) (S : Sto), 0 ≤ p → p < 4 → orc fu T "is_kinds" [.d (.str (kindsV p))] S = .d (.bool true) := fun p S h0 h1 => by rw [D.hd (f := "is_kinds") (d := d_is_kinds) (by kernel_rfl)]; exact r_is_kinds h0 h1
theorem c_payer (x : Str) (h : x = "maker" ∨ x = "seller") : ∀ S : Sto, orc fu T "is_word" [.d (.str x)] S = .d (.bool true) := fun S => by
  rw [D.hd (f := "is_word") (d := d_is_word) (by kernel_rfl)]
  rcases h with rfl | rfl
  · exact y_m
  · exact y_s
theorem c_kind (x : Str) (h : x = "a" ∨ x = "b" ∨ x = "c") : ∀ S : Sto, orc fu T "is_kind" [.d (.str x)] S = .d (.bool true) := fun S => by
  rw [D.hd (f := "is_kind") (d := d_is_kind) (by kernel_rfl)]
  rcases h with rfl | rfl | rfl
  · exact kd_a
  · exact kd_b
  · exact kd_c
theorem c_term (x : Str) (h : x = "maker" ∨ x = "seller") : ∀ (t : Tm) (S : Sto), IsTm x t → orc fu T "is_term" [.d (Tm.e t)] S = .d (.bool true) := fun t S ht => by
  rw [D.hd (f := "is_term") (d := d_is_term) (by kernel_rfl)]
  exact r_is_term ((by rw [Tb.tl D (f := "is_term") (g := "is_word") (by decide +kernel)]; exact (c_payer D x h))) (by unfold KN; exact (by rw [Tb.tl D (f := "is_term") (g := "is_number") (by decide +kernel)]; exact (c_num D))) (by unfold KT; exact (by rw [Tb.tl D (f := "is_term") (g := "is_tuple") (by decide +kernel)]; exact (c_tup D))) ((by rw [Tb.tl D (f := "is_term") (g := "is_kinds") (by decide +kernel)]; exact (c_kinds D))) ht
theorem c_terms : ∀ (ts : List Tm) (S : Sto), IsTs ts → orc fu T "is_terms" [.d (.tuple (ts.map Tm.e))] S = .d (.bool true) := fun ts S h => by
  rw [D.hd (f := "is_terms") (d := d_is_terms) (by kernel_rfl)]
  exact r_is_terms (by unfold KT; exact (by rw [Tb.tl D (f := "is_terms") (g := "is_tuple") (by decide +kernel)]; exact (c_tup D))) ((by rw [Tb.tl D (f := "is_terms") (g := "is_term") (by decide +kernel)]; exact (c_term D "maker" (.inl rfl)))) ((by rw [Tb.tl D (f := "is_terms") (g := "is_term") (by decide +kernel)]; exact (c_term D "seller" (.inr rfl)))) h
theorem c_life : ∀ (k : Str) (a : Int) (S : Sto), k = "a" ∨ k = "b" → 0 ≤ a → a ≤ 6 → orc fu T "is_life" [.d (lifeE (k, a))] S = .d (.bool true) := fun k a S h h0 h1 => by
  rw [D.hd (f := "is_life") (d := d_is_life) (by kernel_rfl)]
  exact r_is_life ((by rw [Tb.tl D (f := "is_life") (g := "is_kind") (by decide +kernel)]; exact (c_kind D k (h.elim .inl fun q => .inr (.inl q))))) (by unfold KN; exact (by rw [Tb.tl D (f := "is_life") (g := "is_number") (by decide +kernel)]; exact (c_num D))) (by unfold KT; exact (by rw [Tb.tl D (f := "is_life") (g := "is_tuple") (by decide +kernel)]; exact (c_tup D))) h0 h1
theorem c_lives : ∀ (f l g : Int) (S : Sto), (0 ≤ f ∧ f < 3) → (0 ≤ l ∧ l < 3) → orc fu T "is_lives" [.d (.tuple ((livesV f l g).map lifeE))] S = .d (.bool true) := fun f l g S h0 h1 => by
  rw [D.hd (f := "is_lives") (d := d_is_lives) (by kernel_rfl)]
  exact r_is_lives ((by rw [Tb.tl D (f := "is_lives") (g := "is_life") (by decide +kernel)]; exact (c_life D))) (by unfold KT; exact (by rw [Tb.tl D (f := "is_lives") (g := "is_tuple") (by decide +kernel)]; exact (c_tup D))) ((by rw [Tb.tl D (f := "is_lives") (g := "is_kinds") (by decide +kernel)]; exact (c_kinds D))) h0 h1
theorem c_most : ∀ (f l g m : Int) (S : Sto), (0 ≤ f ∧ f < 3) → (0 ≤ l ∧ l < 3) → (0 ≤ m ∧ m < 5) → orc fu T "is_most" [.d (.int (mostV f l g m)), .d (.tuple ((livesV f l g).map lifeE))] S = .d (.bool true) := fun f l g m S h0 h1 h4 => by
  rw [D.hd (f := "is_most") (d := d_is_most) (by kernel_rfl)]
  exact r_is_most (by unfold KN; exact (by rw [Tb.tl D (f := "is_most") (g := "is_number") (by decide +kernel)]; exact (c_num D))) h0 h1 h4
theorem c_part {p : Pt} (h : IsPt p) : ∀ S : Sto, orc fu T "is_part" [.d p.e] S = .d (.bool true) := fun S => by
  rw [D.hd (f := "is_part") (d := d_is_part) (by kernel_rfl)]
  exact r_is_part (by unfold KN; exact (by rw [Tb.tl D (f := "is_part") (g := "is_number") (by decide +kernel)]; exact (c_num D))) (by unfold KT; exact (by rw [Tb.tl D (f := "is_part") (g := "is_tuple") (by decide +kernel)]; exact (c_tup D))) ((by rw [Tb.tl D (f := "is_part") (g := "is_lives") (by decide +kernel)]; exact (c_lives D))) ((by rw [Tb.tl D (f := "is_part") (g := "is_most") (by decide +kernel)]; exact (c_most D))) ((by rw [Tb.tl D (f := "is_part") (g := "is_terms") (by decide +kernel)]; exact (c_terms D))) h
theorem c_check_part {p : Pt} (h : IsPt p) : ∀ S : Sto, orc fu T "check_part" [.d p.e] S = .d .none := fun S => by
  rw [D.hd (f := "check_part") (d := d_check_part) (by kernel_rfl)]
  exact r_check_part ((by rw [Tb.tl D (f := "check_part") (g := "is_part") (by decide +kernel)]; exact (c_part D h)))
end
end
end Rf
namespace Rf
open PySem
/-! what the later laws draw: _law_drawn -/
theorem wd_run {O : Orc} {s : PyData} {k m c : Int} : ∀ (n : Nat) (r a : Int), 0 ≤ a → a ≤ n → ∃ r' a' : Int, ∀ (lo : Nat) (S0 : Sto) (f2 fu : Nat), n < fu →
    whGo (fun env S => (ev O lo (.and (.cmp .gt (.var 5) (.con (.int 0))) (.cmp .gt (.var 4) (.con (.int 0)))) env S).bind fun w S1 => (Rf.orNo (asB w) S1))
      (fun env S => exCs O f2 lo (.cons (.set 5 (.bin .fdiv (.var 5) (.con (.int 1000000)))) (.cons (.set 4 (.bin .sub (.var 4) (.con (.int 1)))) .nil)) env S) fu
      [some (.d s), some (.d (.int k)), some (.d (.int m)), some (.d (.int c)), some (.d (.int a)), some (.d (.int r))] S0 =
      .nx [some (.d s), some (.d (.int k)), some (.d (.int m)), some (.d (.int c)), some (.d (.int a')), some (.d (.int r'))] S0 := by
    intro n
    induction n with
    | zero =>
      intro r a h0 h1
      refine ⟨r, a, ?_⟩
      intro lo S0 f2 fu h2
      obtain ⟨f, rfl⟩ : ∃ f, fu = f + 1 := ⟨fu - 1, by omega⟩
      have ha : ¬ (0 < a) := by simp at h1; omega
      by_cases hr : 0 < r
      · simp [whGo, ev, Rf.orNo, peek, cmpD, asB, hr, ha, Res.rs]
      · simp [whGo, ev, Rf.orNo, peek, cmpD, asB, hr, ha, Res.rs]
    | succ n ih =>
      intro r a h0 h1
      by_cases hr : 0 < r
      · by_cases ha : 0 < a
        · obtain ⟨r', a', e⟩ := ih (r / 1000000) (a - 1) (by omega) (by simp at h1; omega)
          refine ⟨r', a', ?_⟩
          intro lo S0 f2 fu h2
          obtain ⟨f, rfl⟩ : ∃ f, fu = f + 1 := ⟨fu - 1, by omega⟩
          rw [← e lo S0 f2 f (by omega)]
          simp [whGo, ev, Rf.orNo, peek, cmpD, binD, asB, hr, ha, Res.rs, exCs, exC, Rs.then, List.set]
        · exact ⟨r, a, by
            intro lo S0 f2 fu h2
            obtain ⟨f, rfl⟩ : ∃ f, fu = f + 1 := ⟨fu - 1, by omega⟩
            simp [whGo, ev, Rf.orNo, peek, cmpD, asB, hr, ha, Res.rs]⟩
      · exact ⟨r, a, by
          intro lo S0 f2 fu h2
          obtain ⟨f, rfl⟩ : ∃ f, fu = f + 1 := ⟨fu - 1, by omega⟩
          simp [whGo, ev, Rf.orNo, peek, cmpD, asB, hr, Res.rs]⟩
/-- the last rows: the cell is mixed -/
def drawnZ : Cs := match b__law_drawn with
  | .cons _ (.cons _ z) => z
  | _ => .nil
theorem drawn_tail {O : Orc} {fu : Nat} {s : PyData} {k m c : Int} (m0 : 0 < m) : ∃ v : Int, 0 ≤ v ∧ v < m ∧ ∀ (S : Sto) (x y : Option Wd), exCs O fu S.length drawnZ [some (.d s), some (.d (.int k)), some (.d (.int m)), some (.d (.int c)), x, y] S = .rt (.d (.int v)) S := by
  obtain ⟨d, hd, d0, d1⟩ : ∃ d : Int, (c % 2147483563 * 69069 + 104723 * (k + 1)) % 2147483563 = d ∧ 0 ≤ d ∧ d < 2147483563 := ⟨_, rfl, Int.emod_nonneg _ (by omega), Int.emod_lt_of_pos _ (by omega)⟩
  obtain ⟨g, hg, g0, g1⟩ : ∃ g : Int, (d * d + d / 3) % 2147483399 = g ∧ 0 ≤ g ∧ g < 2147483399 := ⟨_, rfl, Int.emod_nonneg _ (by omega), Int.emod_lt_of_pos _ (by omega)⟩
  refine ⟨((g * g + g / 7) % 2147483647 / 11) % m, Int.emod_nonneg _ (by omega), Int.emod_lt_of_pos _ m0, fun S x y => ?_⟩
  have c0 : 0 ≤ c % 2147483563 := Int.emod_nonneg _ (by omega)
  have c1 : c % 2147483563 < 2147483563 := Int.emod_lt_of_pos _ (by omega)
  have b1 : ∀ z : Int, binD .mod (.int z) (.int 2147483563) = some (.int (z % 2147483563)) := fun _ => rfl
  have b2 : binD .mul (.int (c % 2147483563)) (.int 69069) = some (.int (c % 2147483563 * 69069)) := by
    show (if _ then _ else _) = _
    rw [if_pos (.inr (by decide))]
  have b3 : binD .mul (.int 104723) (.int (k + 1)) = some (.int (104723 * (k + 1))) := by
    show (if (-(2 ^ 64) < (104723 : Int) ∧ (104723 : Int) < 2 ^ 64) ∨ (-(2 ^ 64) < k + 1 ∧ k + 1 < 2 ^ 64) then some (PyData.int (104723 * (k + 1))) else none) = _
    rw [if_pos (.inl (by decide))]
  have b4 : binD .mul (.int d) (.int d) = some (.int (d * d)) := by
    show (if _ then _ else _) = _
    rw [if_pos (.inl (by omega))]
  have b4' : binD .mul (.int g) (.int g) = some (.int (g * g)) := by
    show (if _ then _ else _) = _
    rw [if_pos (.inl (by omega))]
  have b5 : ∀ x y : Int, binD .add (.int x) (.int y) = some (.int (x + y)) := fun _ _ => rfl
  have b6 : ∀ x : Int, binD .mod (.int x) (.int 2147483399) = some (.int (x % 2147483399)) := fun _ => rfl
  have b7 : ∀ x : Int, binD .mod (.int x) (.int 2147483647) = some (.int (x % 2147483647)) := fun _ => rfl
  have b8 : ∀ x : Int, binD .mod (.int x) (.int m) = some (.int (x % m)) := fun _ => by
    show (if _ then _ else _) = _
    rw [if_pos m0]
  have b9 : ∀ x : Int, binD .fdiv (.int x) (.int 3) = some (.int (x / 3)) := fun _ => rfl
  have b10 : ∀ x : Int, binD .fdiv (.int x) (.int 7) = some (.int (x / 7)) := fun _ => rfl
  have b11 : ∀ x : Int, binD .fdiv (.int x) (.int 11) = some (.int (x / 11)) := fun _ => rfl
  have b0 : ∀ x : Int, biD .int [.int x] = some (.int x) := fun _ => rfl
  simp [drawnZ, b__law_drawn, exCs, exC, ev, evs, peek, peeks, Rf.orNo, Res.rs, Rs.then, List.set, b0, b1, b2, b3, b4, b4', b5, b6, b7, b8, b9, b10, b11, hd, hg]
theorem drawn_run {O : Orc} {fu : Nat} (ns : List Int) (h63 : ns.length ≤ 63) (hf : 901 < fu) : ∀ k m : Int, 0 ≤ k → k ≤ 900 → 0 < m → ∃ v : Int, 0 ≤ v ∧ v < m ∧ ∀ S : Sto, runD O fu d__law_drawn [.d (.list (ns.map .int)), .d (.int k), .d (.int m)] S = .d (.int v) := by
  intro k m k0 k1 m0
  have fin : ∀ v : Int, 0 ≤ v → v < m → (∀ S : Sto, exCs O fu S.length b__law_drawn [some (.d (.list (ns.map .int))), some (.d (.int k)), some (.d (.int m)), none, none, none] S = .rt (.d (.int v)) S) → ∃ v : Int, 0 ≤ v ∧ v < m ∧ ∀ S : Sto, runD O fu d__law_drawn [.d (.list (ns.map .int)), .d (.int k), .d (.int m)] S = .d (.int v) := by
    intro v v0 v1 e
    refine ⟨v, v0, v1, fun S => ?_⟩
    show outD S.length (exCs O fu S.length b__law_drawn [some (.d (.list (ns.map .int))), some (.d (.int k)), some (.d (.int m)), none, none, none] S) = _
    rw [e]; rfl
  have b7 : binD .mul (.int 7) (.int k) = some (.int (7 * k)) := by
    show (if (-(2 ^ 64) < (7 : Int) ∧ (7 : Int) < 2 ^ 64) ∨ (-(2 ^ 64) < k ∧ k < 2 ^ 64) then some (PyData.int (7 * k)) else none) = _
    rw [if_pos (.inl (by decide))]
  generalize hq : (C.ife (.cmp .ne (.var 0) (.lst .nil)) (match b__law_drawn with
    | .cons _ (.cons (.ife _ a _) _) => a
    | _ => .nil) .nil) = q2
  have hb : b__law_drawn = .cons (.set 3 (.bin .mul (.con (.int 7)) (.var 1))) (.cons q2 drawnZ) := by rw [← hq]; rfl
  have h0 : ∀ S, exC O fu S.length (.set 3 (.bin .mul (.con (.int 7)) (.var 1))) [some (.d (.list (ns.map .int))), some (.d (.int k)), some (.d (.int m)), none, none, none] S = .nx [some (.d (.list (ns.map .int))), some (.d (.int k)), some (.d (.int m)), some (.d (.int (7 * k))), none, none] S := fun S => by
    simp [exC, ev, peek, Rf.orNo, Res.rs, List.set, b7]
  cases ns with
  | nil =>
    obtain ⟨v, v0, v1, e⟩ := drawn_tail (O := O) (fu := fu) (s := .list []) (k := k) (c := 7 * k) m0
    refine fin v v0 v1 fun S => ?_
    have h1 : exC O fu S.length q2 [some (.d (.list [])), some (.d (.int k)), some (.d (.int m)), some (.d (.int (7 * k))), none, none] S = .nx [some (.d (.list [])), some (.d (.int k)), some (.d (.int m)), some (.d (.int (7 * k))), none, none] S := by
      rw [← hq]
      have e0 : cmpD .ne (.list []) (.list []) = some false := rfl
      simp [exC, exCs, ev, evs, toDs, peek, Rf.orNo, Res.rs, asB, e0]
    have h0' := h0 S
    rw [hb]
    simp only [exCs]
    rw [h0']
    simp only [then_nx, List.map_nil]
    rw [h1]
    simp only [then_nx]
    exact e S none none
  | cons n r =>
    have hl : (0 : Int) < ((n :: r).map PyData.int).length := by simp
    have hl64 : (((n :: r).map PyData.int).length : Int) < 2 ^ 64 := by
      have : ((n :: r).map PyData.int).length ≤ 63 := by simpa using h63
      omega
    have g0 : 0 ≤ k % (((n :: r).map PyData.int).length : Int) := Int.emod_nonneg _ (by omega)
    have g1 : k % (((n :: r).map PyData.int).length : Int) < (((n :: r).map PyData.int).length : Int) := Int.emod_lt_of_pos _ hl
    have hx := ixAt_in (n := ((n :: r).map PyData.int).length) g0 g1
    obtain ⟨j, hj⟩ : ∃ j, (k % (((n :: r).map PyData.int).length : Int)).toNat = j := ⟨_, rfl⟩
    have hjl : j < (n :: r).length := by simp at g1 g0 hj ⊢; omega
    have hg : ((n :: r).map PyData.int)[j]? = some (.int ((n :: r)[j])) := by
      rw [List.getElem?_map, List.getElem?_eq_getElem hjl]; rfl
    have ne : cmpD .ne (.list ((n :: r).map PyData.int)) (.list []) = some true := by
      show (if (okD _ && okD (.list [])) = true then some (!PyData.eqv (.list ((n :: r).map PyData.int)) (.list [])) else none) = _
      rw [okD_ints, eqv_nil]; rfl
    have el : biD .len [.list ((n :: r).map PyData.int)] = some (.int (((n :: r).map PyData.int).length : Int)) := rfl
    generalize (n :: r)[j] = c at *
    generalize ((n :: r).map PyData.int) = xs at *
    have em : binD .mod (.int k) (.int (xs.length : Int)) = some (.int (k % (xs.length : Int))) := by
      show (if _ then _ else _) = _
      rw [if_pos hl]
    have ed : binD .fdiv (.int k) (.int (xs.length : Int)) = some (.int (k / (xs.length : Int))) := by
      show (if _ then _ else _) = _
      rw [if_pos ⟨hl, hl64⟩]
    have ex : idxD (.list xs) (.int (k % (xs.length : Int))) = some (.int c) := by
      show (ixAt xs.length (k % (xs.length : Int))).bind (fun j => xs[j]?) = _
      rw [hx, hj]; exact hg
    have e10 : binD .pow (.int 10) (.int 18) = some (.int 1000000000000000000) := rfl
    have ec : ∀ z : Int, binD .fdiv (.int z) (.int 1000000000000000000) = some (.int (z / 1000000000000000000)) := fun _ => rfl
    have e65 : ∀ z : Int, binD .mul (.int 6553) (.int z) = some (.int (6553 * z)) := fun z => by
      show (if (-(2 ^ 64) < (6553 : Int) ∧ (6553 : Int) < 2 ^ 64) ∨ (-(2 ^ 64) < z ∧ z < 2 ^ 64) then some (PyData.int (6553 * z)) else none) = _
      rw [if_pos (.inl (by decide))]
    have b0 : ∀ x : Int, biD .int [.int x] = some (.int x) := fun _ => rfl
    have m1 : ∀ x : Int, 0 ≤ x % m ∧ x % m < m := fun x => ⟨Int.emod_nonneg _ (by omega), Int.emod_lt_of_pos _ m0⟩
    have b8 : ∀ x : Int, binD .mod (.int x) (.int m) = some (.int (x % m)) := fun _ => by
      show (if _ then _ else _) = _
      rw [if_pos m0]
    have bM : ∀ x : Int, binD .mod (.int x) (.int 1000000) = some (.int (x % 1000000)) := fun _ => rfl
    have t0 : 0 ≤ k / (xs.length : Int) := Int.ediv_nonneg k0 (by omega)
    have t1 : k / (xs.length : Int) ≤ 900 := Int.le_trans (Int.ediv_le_self _ k0) k1
    generalize k / (xs.length : Int) = t at *
    obtain ⟨v, v0, v1, e⟩ := drawn_tail (O := O) (fu := fu) (s := .list xs) (k := k) (c := c + 6553 * t) m0
    obtain ⟨r', a', hw⟩ := wd_run (O := O) (s := .list xs) (k := k) (m := m) (c := c) 900 (c / 1000000000000000000) t t0 (by omega)
    generalize hgw : (C.whl (.and (.cmp .gt (.var 5) (.con (.int 0))) (.cmp .gt (.var 4) (.con (.int 0)))) (.cons (.set 5 (.bin .fdiv (.var 5) (.con (.int 1000000)))) (.cons (.set 4 (.bin .sub (.var 4) (.con (.int 1)))) .nil))) = gw
    have hw2 : ∀ S : Sto, exC O fu S.length gw [some (.d (.list xs)), some (.d (.int k)), some (.d (.int m)), some (.d (.int c)), some (.d (.int t)), some (.d (.int (c / 1000000000000000000)))] S =
        .nx [some (.d (.list xs)), some (.d (.int k)), some (.d (.int m)), some (.d (.int c)), some (.d (.int a')), some (.d (.int r'))] S := by
      intro S
      rw [← hgw]
      simp only [exC]
      exact hw _ _ _ _ (by omega)
    have hq2 : q2 = .ife (.cmp .ne (.var 0) (.lst .nil)) (.cons (.set 3 (.idx (.var 0) (.bin .mod (.bi .int (.cons (.var 1) .nil)) (.bi .len (.cons (.var 0) .nil))))) (.cons (.set 4 (.bin .fdiv (.var 1) (.bi .len (.cons (.var 0) .nil))))
        (.cons (.ife (.and (.cmp .ge (.var 3) (.bin .pow (.con (.int 10)) (.con (.int 18)))) (.cmp .lt (.var 4) (.con (.int 60)))) (.cons (.set 5 (.bin .fdiv (.var 3) (.bin .pow (.con (.int 10)) (.con (.int 18))))) (.cons gw (.cons (.ife (.cmp .gt (.var 5) (.con (.int 0))) (.cons (.ret (.bin .mod (.bi .int (.cons (.bin .mod (.bi .int (.cons (.var 5) .nil)) (.con (.int 1000000))) .nil)) (.var 2))) .nil) .nil) .nil))) .nil)
          (.cons (.set 3 (.bin .add (.var 3) (.bin .mul (.con (.int 6553)) (.bin .fdiv (.var 1) (.bi .len (.cons (.var 0) .nil)))))) .nil)))) .nil := by rw [← hq, ← hgw]; rfl
    by_cases hbig : 1000000000000000000 ≤ c ∧ t < 60
    · by_cases hr : 0 < r'
      · refine fin ((r' % 1000000) % m) (m1 _).1 (m1 _).2 fun S => ?_
        have hw3 := hw2 S
        have h0' := h0 S
        rw [hb]
        simp only [exCs]
        rw [h0', then_nx, hq2]
        simp [exC, exCs, ev, evs, toDs, peek, peeks, Rf.orNo, Res.rs, Rs.then, List.set, asB, ne, el, em, ed, ex, e10, ec, b0, b8, bM, hbig.1, hbig.2, hw3, hr]
      · refine fin v v0 v1 fun S => ?_
        have hw3 := hw2 S
        have h0' := h0 S
        have e' := e S (some (.d (.int a'))) (some (.d (.int r')))
        rw [hb]
        simp only [exCs]
        rw [h0', then_nx, hq2]
        simp [exC, exCs, ev, evs, toDs, peek, peeks, Rf.orNo, Res.rs, Rs.then, List.set, asB, ne, el, em, ed, ex, e10, ec, b0, b8, bM, hbig.1, hbig.2, hw3, hr, e65, e']
    · refine fin v v0 v1 fun S => ?_
      have h0' := h0 S
      have e' := e S (some (.d (.int t))) none
      rw [hb]
      simp only [exCs]
      rw [h0', then_nx, hq2]
      by_cases hc : 1000000000000000000 ≤ c
      · have ht : ¬ t < 60 := fun z => hbig ⟨hc, z⟩
        simp [exC, exCs, ev, evs, toDs, peek, peeks, Rf.orNo, Res.rs, Rs.then, List.set, asB, ne, el, em, ed, ex, e10, ec, b0, hc, ht, e65, e']
      · simp [exC, exCs, ev, evs, toDs, peek, peeks, Rf.orNo, Res.rs, Rs.then, List.set, asB, ne, el, em, ed, ex, e10, ec, b0, hc, e65, e']
end Rf
namespace Rf
open PySem
/-! parts as the document says, with payers of a short list -/
def NAMES : List Str := [Str.ofString "maker", Str.ofString "seller", Str.ofString "third", Str.ofString "bank", Str.ofString "store", Str.ofString "new"]
def KNDS : List Str := [Str.ofString "", Str.ofString "a", Str.ofString "b", Str.ofString "c", Str.ofString "ab", Str.ofString "ac", Str.ofString "bc", Str.ofString "abc"]
def KIND3 : List Str := [Str.ofString "a", Str.ofString "b", Str.ofString "c"]
def RENS : List Str := [Str.ofString "anew", Str.ofString "rest"]
def LKS : List (List Str) := [[Str.ofString "a"], [Str.ofString "b"], [Str.ofString "c"], [Str.ofString "a", Str.ofString "b"], [Str.ofString "a", Str.ofString "c"], [Str.ofString "b", Str.ofString "c"], [Str.ofString "a", Str.ofString "b", Str.ofString "c"]]
structure VTm (t : Tm) : Prop where
  pay : t.pay ∈ NAMES
  days : 1 ≤ t.days ∧ t.days ≤ 6
  kinds : t.kinds ∈ KNDS
  ren : t.ren ∈ RENS
  cl : 0 ≤ t.cl ∧ t.cl ≤ 2
def minI : List Int → Int
  | [] => 0
  | a :: r => minL a r
structure VPt (p : Pt) : Prop where
  price : 1 ≤ p.price ∧ p.price ≤ 20
  lk : p.lives.map (·.1) ∈ LKS
  least : ∀ l ∈ p.lives, 0 ≤ l.2 ∧ l.2 ≤ 6
  most : p.most = 0 ∨ (minI (p.lives.map (·.2)) ≤ p.most ∧ p.most ≤ 8)
  terms : p.terms.length ≤ 3
  tv : ∀ t ∈ p.terms, VTm t
  dis : (p.terms.map (·.pay)).Nodup
theorem mem6 {α : Type} {x a b c d e f : α} : x ∈ [a, b, c, d, e, f] ↔ x = a ∨ x = b ∨ x = c ∨ x = d ∨ x = e ∨ x = f := by simp
theorem mem8 {α : Type} {x a b c d e f g h : α} : x ∈ [a, b, c, d, e, f, g, h] ↔ x = a ∨ x = b ∨ x = c ∨ x = d ∨ x = e ∨ x = f ∨ x = g ∨ x = h := by simp
theorem mem7 {α : Type} {x a b c d e f g : α} : x ∈ [a, b, c, d, e, f, g] ↔ x = a ∨ x = b ∨ x = c ∨ x = d ∨ x = e ∨ x = f ∨ x = g := by simp
theorem mem3 {α : Type} {x a b c : α} : x ∈ [a, b, c] ↔ x = a ∨ x = b ∨ x = c := by simp
theorem mem2 {α : Type} {x a b : α} : x ∈ [a, b] ↔ x = a ∨ x = b := by simp
section
variable {O : Orc} {fu : Nat} {S : Sto}
theorem w_names {x : Str} (h : x ∈ NAMES) : runD O fu d_is_word [.d (.str x)] S = .d (.bool true) := by
  rcases mem6.mp h with rfl | rfl | rfl | rfl | rfl | rfl
  all_goals kernel_rfl
theorem w_kinds {x : Str} (h : x ∈ KNDS) : runD O fu d_is_kinds [.d (.str x)] S = .d (.bool true) := by
  rcases mem8.mp h with rfl | rfl | rfl | rfl | rfl | rfl | rfl | rfl
  all_goals kernel_rfl
theorem w_kind {x : Str} (h : x ∈ KIND3) : runD O fu d_is_kind [.d (.str x)] S = .d (.bool true) := by
  rcases mem3.mp h with rfl | rfl | rfl
  all_goals kernel_rfl
theorem ren_inV {x : Str} (h : x ∈ RENS) : cmpD .isin (.str x) g_RENEWALS = some true := by
  rcases mem2.mp h with rfl | rfl
  all_goals decide +kernel
theorem r_is_termV (hy : ∀ x ∈ NAMES, ∀ S, O "is_word" [.d (.str x)] S = .d (.bool true)) (hn : KN O) (ht : KT O) (hk : ∀ x ∈ KNDS, ∀ S, O "is_kinds" [.d (.str x)] S = .d (.bool true)) {t : Tm} (h : VTm t) :
    runD O fu d_is_term [.d t.e] S = .d (.bool true) := by
  have i1 := ren_inV h.ren
  have k1 : isNum 1 6 (.int t.days) = true := by simp [isNum]; exact h.days
  have k2 : isNum 0 2 (.int t.cl) = true := by simp [isNum]; exact h.cl
  have y1 := hy _ h.pay
  have y2 := hk _ h.kinds
  unfold KN at hn
  unfold KT at ht
  simp [runD, d_is_term, b_is_term, Tm.e, y1, y2, hn, ht, isTup, k1, k2, i1, isiD]
theorem jns : ∀ ks ∈ LKS, ∃ x ∈ KNDS, joinD (Str.ofString "") ks = some (.str x) := by
  intro ks h
  rcases mem7.mp h with rfl | rfl | rfl | rfl | rfl | rfl | rfl
  · exact ⟨Str.ofString "a", by simp [KNDS], by kernel_rfl⟩
  · exact ⟨Str.ofString "b", by simp [KNDS], by kernel_rfl⟩
  · exact ⟨Str.ofString "c", by simp [KNDS], by kernel_rfl⟩
  · exact ⟨Str.ofString "ab", by simp [KNDS], by kernel_rfl⟩
  · exact ⟨Str.ofString "ac", by simp [KNDS], by kernel_rfl⟩
  · exact ⟨Str.ofString "bc", by simp [KNDS], by kernel_rfl⟩
  · exact ⟨Str.ofString "abc", by simp [KNDS], by kernel_rfl⟩
theorem lks_kind : ∀ ks ∈ LKS, (∀ k ∈ ks, k ∈ KIND3) ∧ 1 ≤ ks.length ∧ ks.length ≤ 3 := by
  intro ks h
  rcases mem7.mp h with rfl | rfl | rfl | rfl | rfl | rfl | rfl <;> simp [KIND3]
theorem strsOf_map {α : Type} (f : α → Str) : ∀ xs : List α, strsOf (xs.map fun x => .str (f x)) = some (xs.map f)
  | [] => rfl
  | x :: xs => by simp [strsOf, strsOf_map f xs]
theorem alls {α : Type} : ∀ xs : List α, (xs.map fun _ => true).all id = true
  | [] => rfl
  | x :: xs => by simp
theorem VPt.lives3 {p : Pt} (h : VPt p) : (∀ l ∈ p.lives, l.1 ∈ KIND3) ∧ 1 ≤ p.lives.length ∧ p.lives.length ≤ 3 := by
  obtain ⟨a, b, c⟩ := lks_kind _ h.lk
  exact ⟨fun l hl => a _ (List.mem_map.mpr ⟨l, hl, rfl⟩), by simpa using b, by simpa using c⟩
theorem r_is_livesV (hl : ∀ (k : Str) (a : Int) S, k ∈ KIND3 → 0 ≤ a → a ≤ 6 → O "is_life" [.d (lifeE (k, a))] S = .d (.bool true)) (ht : KT O) (hk : ∀ x ∈ KNDS, ∀ S, O "is_kinds" [.d (.str x)] S = .d (.bool true)) {p : Pt} (h : VPt p) :
    runD O fu d_is_lives [.d (.tuple (p.lives.map lifeE))] S = .d (.bool true) := by
  obtain ⟨a, b, c⟩ := h.lives3
  obtain ⟨x, hx, hj⟩ := jns _ h.lk
  have t1 : isTup 1 3 (.tuple (p.lives.map lifeE)) = true := by simp [isTup]; omega
  have y1 := hk x hx
  unfold KT at ht
  simp [runD, d_is_lives, b_is_lives, ht, t1, ev_comp]
  rw [comp_map (enc := lifeE) (fun l => some (.bool true)) _ _ (by
    intro l hm
    have := fun S => hl l.1 l.2 S (a l hm) (h.least l hm).1 (h.least l hm).2
    have e : lifeE (l.1, l.2) = lifeE l := rfl
    rw [e] at this
    simp [compF, this]), fm_map]
  simp [biD, boolsOf_map (fun _ => true), alls]
  rw [comp_map (enc := lifeE) (fun l => some (.str l.1)) _ _ (by intro l _; simp [compF, lifeE]), fm_map]
  have e2 := strsOf_map (fun l : Str × Int => l.1) p.lives
  simp [e2]
  rw [hj]
  simp [y1]
theorem r_is_lifeV {k : Str} {a : Int} (hk : ∀ x ∈ KIND3, ∀ S, O "is_kind" [.d (.str x)] S = .d (.bool true)) (hn : KN O) (ht : KT O) (h : k ∈ KIND3) (h0 : 0 ≤ a) (h1 : a ≤ 6) :
    runD O fu d_is_life [.d (lifeE (k, a))] S = .d (.bool true) := r_is_life (hk k h) hn ht h0 h1
theorem r_is_mostV (hn : KN O) {p : Pt} (h : VPt p) : runD O fu d_is_most [.d (.int p.most), .d (.tuple (p.lives.map lifeE))] S = .d (.bool true) := by
  obtain ⟨a, b, c⟩ := h.lives3
  unfold KN at hn
  simp [runD, d_is_most, b_is_most, ev_comp]
  rw [comp_map (enc := lifeE) (fun l => some (.int l.2)) _ _ (by intro l _; simp [compF, lifeE]), fm_map]
  have hm := h.most
  have e2 := intsOf_map (fun l : Str × Int => l.2) p.lives
  cases hq : p.lives with
  | nil => rw [hq] at b; simp at b
  | cons l r =>
    rw [hq] at hm e2
    simp only [List.map_cons] at e2
    simp only [List.map_cons, minI] at hm
    simp [biD, e2, hn]
    by_cases hz : p.most = 0
    · have k1 : isNum 0 0 (.int p.most) = true := by simp [isNum]; omega
      simp [k1]
    · have k1 : isNum 0 0 (.int p.most) = false := by simp [isNum]; omega
      have hm := hm.resolve_left hz
      have k2 : isNum (minL l.2 (r.map (·.2))) 8 (.int p.most) = true := by simp [isNum]; exact hm
      simp [k1, k2]
theorem dedup_nd : ∀ {xs : List Str}, xs.Nodup → (dedup xs).length = xs.length
  | [], _ => rfl
  | x :: r, h => by
    have h := List.nodup_cons.mp h
    simp [dedup, h.1, dedup_nd h.2]
theorem comp_gen {α : Type} {f : PyData → Sto → Res (Option PyData)} {enc : α → PyData} (g : α → Option PyData) (xs : List α) (S : Sto) (h : ∀ x ∈ xs, f (enc x) S = .ok (g x) S) : compGo f (xs.map enc) S = .ok (xs.filterMap g) S := comp_map g xs S h
theorem r_is_termsV (ht : KT O) (hm : ∀ t S, VTm t → O "is_term" [.d (Tm.e t)] S = .d (.bool true)) {ts : List Tm} (hl : ts.length ≤ 3) (hv : ∀ t ∈ ts, VTm t) (hd : (ts.map (·.pay)).Nodup) :
    runD O fu d_is_terms [.d (.tuple (ts.map Tm.e))] S = .d (.bool true) := by
  have t1 : isTup 0 3 (.tuple (ts.map Tm.e)) = true := by simp [isTup]; omega
  have i1 : ∀ t : Tm, idxD t.e (.int 0) = some (.str t.pay) := fun _ => rfl
  unfold KT at ht
  simp [runD, d_is_terms, b_is_terms, ht, t1, ev_comp, ev_lset]
  rw [comp_map (enc := Tm.e) (fun l => some (.bool true)) _ _ (by
    intro t h
    have := fun S => hm t S (hv t h)
    simp [compF, this]), fm_map]
  have h8 : ts.length ≤ 8 := by omega
  simp [biD, boolsOf_map (fun _ => true), alls, h8]
  rw [comp_map (enc := Tm.e) (fun t => some (.str t.pay)) _ _ (by intro t _; simp [-idx_t, -idx_l, i1, asS]), fm_map]
  have e2 := strsOf_map (fun t : Tm => t.pay) ts
  have e3 := dedup_nd hd
  simp at e3
  simp [e2, e3]
theorem r_is_partV (hn : KN O) (ht : KT O) {p : Pt} (hl : ∀ S, O "is_lives" [.d (.tuple (p.lives.map lifeE))] S = .d (.bool true))
    (hm : ∀ S, O "is_most" [.d (.int p.most), .d (.tuple (p.lives.map lifeE))] S = .d (.bool true))
    (hs : ∀ S, O "is_terms" [.d (.tuple (p.terms.map Tm.e))] S = .d (.bool true)) (h : VPt p) : runD O fu d_is_part [.d p.e] S = .d (.bool true) := by
  have k1 : isNum 1 20 (.int p.price) = true := by simp [isNum]; exact h.price
  unfold KN at hn
  unfold KT at ht
  simp [runD, d_is_part, b_is_part, Pt.e, hn, ht, isTup, k1, hl, hm, hs]
end
theorem ok_knds {x : Str} (h : x ∈ KIND3) : okD (.str x) = true := by
  rcases mem3.mp h with rfl | rfl | rfl <;> decide +kernel
theorem ok_rens {x : Str} (h : x ∈ RENS) : okD (.str x) = true := by
  rcases mem2.mp h with rfl | rfl <;> decide +kernel
theorem ok_names {x : Str} (h : x ∈ NAMES) : okD (.str x) = true := by
  rcases mem6.mp h with rfl | rfl | rfl | rfl | rfl | rfl <;> decide +kernel
theorem maxL_ge : ∀ (r : List Int) (a : Int), a ≤ maxL a r
  | [], a => Int.le_refl _
  | b :: r, a => by
    have := maxL_ge r (if a < b then b else a)
    simp only [maxL]
    refine Int.le_trans ?_ this
    split <;> omega
theorem VPt.ok {p : Pt} (h : VPt p) : PtOk p := by
  obtain ⟨a, b, c⟩ := h.lives3
  refine ⟨⟨c, fun z => by rw [z] at b; simp at b, h.terms, fun l hl => ok_knds (a l hl), fun t ht => ok_rens (h.tv t ht).ren⟩, fun t ht => (h.tv t ht).days.1, fun t ht => (h.tv t ht).cl.1, ?_⟩
  unfold gage
  split
  · omega
  · have hq := h.least
    cases hl : p.lives with
    | nil => rw [hl] at b; simp at b
    | cons l r =>
      rw [hl] at hq
      have h1 := (hq l (List.mem_cons_self ..)).1
      have h2 := maxL_ge (r.map (·.2)) l.2
      show 0 ≤ maxL l.2 (r.map (·.2))
      omega
end Rf
namespace Rf
open PySem
def upTo (a : Int) : Nat → List Int
  | 0 => []
  | n + 1 => a :: upTo (a + 1) n
theorem rangeL_up : ∀ (n : Nat) (a : Int), rangeL a n = (upTo a n).map .int
  | 0, _ => rfl
  | n + 1, a => by simp only [rangeL, upTo, List.map_cons, rangeL_up n (a + 1)]
theorem upTo_len : ∀ (n : Nat) (a : Int), (upTo a n).length = n
  | 0, _ => rfl
  | n + 1, a => by simp only [upTo, List.length_cons, upTo_len n (a + 1)]
theorem upTo_mem : ∀ (n : Nat) (a x : Int), x ∈ upTo a n → a ≤ x ∧ x < a + n
  | 0, _, _, h => by cases h
  | n + 1, a, x, h => by
    rcases List.mem_cons.mp h with rfl | h
    · omega
    · have := upTo_mem n (a + 1) x h; omega
theorem evI_upTo {O : Orc} {lo : Nat} {env : Env} {S : Sto} {a : Es} {n : Nat} (h : evs O lo a env S = .ok [.d (.int n)] S) (hl : n ≤ 15) : evI O lo (.range1 a) env S = .ok ((upTo 0 n).map .int, []) S := by
  rw [evI_range1, h]
  obtain rfl | rfl | rfl | rfl | rfl | rfl | rfl | rfl | rfl | rfl | rfl | rfl | rfl | rfl | rfl | rfl : n = 0 ∨ n = 1 ∨ n = 2 ∨ n = 3 ∨ n = 4 ∨ n = 5 ∨ n = 6 ∨ n = 7 ∨ n = 8 ∨ n = 9 ∨ n = 10 ∨ n = 11 ∨ n = 12 ∨ n = 13 ∨ n = 14 ∨ n = 15 := by omega
  all_goals rfl
end Rf
namespace Rf
open PySem
/-! ### the later laws' own days: _law_asked, _law_after -/
def askB : Cs := match b__law_asked with
  | .cons _ (.cons (.loop _ _ b) _) => b
  | _ => .nil
def afterB : Cs := match b__law_after with
  | .cons _ (.cons _ (.cons _ (.cons (.loop _ _ b) _))) => b
  | _ => .nil
theorem able_fm {p : Pt} {s : St} (hf : Fits p s) (k : Str) : (List.zipIdx p.terms).flatMap (fun x => ((ableAt s k x).map fun n => PyData.int (n : Nat)).toList) = (able p s k).map fun n => .int (n : Nat) := by
  rw [← able_eq hf]
  induction List.zipIdx p.terms with
  | nil => rfl
  | cons x xs ih =>
    rw [List.flatMap_cons, ih, List.filterMap_cons]
    cases ableAt s k x <;> simp
section
variable {O : Orc} {fu : Nat} {S : Sto}
theorem r_law_asked {p : Pt} (sm : Small p) {s : St} (hf : Fits p s) (k : Str) : runD O fu d__law_asked [.d p.e, .d (stE s), .d (.str k)] S = .d (.list ((able p s k).map fun n => .int (n : Nat))) := by
  obtain ⟨env', S', q, hS, junk, hj, he⟩ := forGo_pre (enc := fun x : Tm × Nat => .tuple [.int x.2, x.1.e]) (step := loopF O fu S.length (.tup [4, 5]) askB)
    (fun pre env S1 => S1 = S ∧ ∃ junk : Env, junk.length = 4 ∧ env = [some (.d p.e), some (.d (stE s)), some (.d (.str k)), some (.d (.list (pre.flatMap fun x => ((ableAt s k x).map fun n => PyData.int (n : Nat)).toList)))] ++ junk)
    (List.zipIdx p.terms) [some (.d p.e), some (.d (stE s)), some (.d (.str k)), some (.d (.list [])), none, none, none, none] S ⟨rfl, [none, none, none, none], rfl, rfl⟩ (by
      rintro pre x post env S1 hx ⟨rfl, junk, hj, rfl⟩
      have hm : x ∈ List.zipIdx p.terms := by rw [hx]; simp
      obtain ⟨hlt, hg⟩ := zi_lt hf hm
      have hr := row_at hlt
      have ha : ableAt s k x = if can x.1 s.2[x.2] k then some x.2 else none := by simp [ableAt, hg]
      have hl : (pre.flatMap fun x => ((ableAt s k x).map fun n => PyData.int (n : Nat)).toList).length ≤ 3 := by
        have h1 : ∀ l : List (Tm × Nat), (l.flatMap fun x => ((ableAt s k x).map fun n => PyData.int (n : Nat)).toList).length ≤ l.length := by
          intro l
          induction l with
          | nil => simp
          | cons y ys ih =>
            rw [List.flatMap_cons, List.length_append, List.length_cons]
            have h1 : (((ableAt s k y).map fun n => PyData.int (n : Nat)).toList).length ≤ 1 := by cases ableAt s k y <;> simp
            omega
        have h2 := h1 pre
        have h3 : pre.length ≤ (List.zipIdx p.terms).length := by rw [hx]; simp
        have := sm.terms
        rw [List.length_zipIdx] at h3
        omega
      rw [List.flatMap_append, List.flatMap_cons, List.flatMap_nil, List.append_nil, ha]
      generalize (pre.flatMap fun x => ((ableAt s k x).map fun n => PyData.int (n : Nat)).toList) = acc at hl
      clear ha hg
      generalize s.2[x.2] = r at hr
      match junk, hj with
      | [a, b, c, d], _ =>
      have l0 : acc.length + ([] : List PyData).length ≤ LIM := by simp; unfold LIM; omega
      have l1 : acc.length + [PyData.int (x.2 : Nat)].length ≤ LIM := by simp; unfold LIM; omega
      have c0 : binD .add (.list acc) (.list []) = some (.list (acc ++ [])) := by
        show (if _ then _ else _) = _
        rw [if_pos l0]
      have c1 : binD .add (.list acc) (.list [PyData.int (x.2 : Nat)]) = some (.list (acc ++ [PyData.int (x.2 : Nat)])) := by
        show (if _ then _ else _) = _
        rw [if_pos l1]
      refine ⟨[some (.d p.e), some (.d (stE s)), some (.d (.str k)), some (.d (.list (acc ++ (((if can x.1 r k then some x.2 else none).map fun n => PyData.int (n : Nat)).toList)))), some (.d (.int x.2)), some (.d x.1.e), some (.d (.int r.1)), some (.d (.int r.2))], S1, ?_, rfl, [_, _, _, _], rfl, rfl⟩
      by_cases h1 : 0 < r.1
      · by_cases h2 : r.2 = 0
        · simp [loopF, askB, b__law_asked, -idx_t, -idx_l, s1, hr, rowE, t2, h1, h2, can, c0]
        · by_cases h3 : strIn k x.1.kinds = true
          · simp [loopF, askB, b__law_asked, -idx_t, -idx_l, s1, hr, rowE, t2, h1, h2, h3, can, c1]
          · simp [loopF, askB, b__law_asked, -idx_t, -idx_l, s1, hr, rowE, t2, h1, h2, h3, can, c0]
      · simp [loopF, askB, b__law_asked, -idx_t, -idx_l, s1, hr, rowE, t2, h1, can, c0])
  subst hS
  rw [able_fm hf] at he
  subst he
  match junk, hj with
  | [a, b, c, d], _ =>
  simp [askB, b__law_asked] at q
  simp [runD, d__law_asked, b__law_asked, exC_loop, -idx_t, -idx_l, e3, enumL_map, q]
theorem r_law_after {p : Pt} (sm : Small p) {s : St} (hf : Fits p s) {e : Str} (he : okD (.str e) = true) (n : Option Nat) :
    runD O fu d__law_after [.d p.e, .d (stE s), .d (.str e), .d (optE n)] S = .d (stE (lawMove p s e n)) := by
  have q1 := eq_ss he ok_empty
  have q2 := ne_ss he ok_empty
  obtain ⟨jk, q, hj⟩ := forGo_acc (enc := fun x : Tm × Nat => .tuple [.int x.2, x.1.e]) (step := loopF O fu S.length (.tup [10, 11]) afterB) (fixed := [some (.d p.e), some (.d (stE s)), some (.d (.str e)), some (.d (optE n)), some (.d (.int s.1)), some (.d (.tuple (s.2.map rowE))), some (.d (.int (gage p))), none, none, some (.r S.length)]) (j := 4) (S := S)
    (fun x => [rowE (moveAt s e n x)]) (List.zipIdx p.terms) 1000 [] [none, none, none, none] (fun x _ => by simp) (by have := sm.terms; simp; omega) rfl (by
      rintro x hm acc junk hj hb
      obtain ⟨hlt, hg⟩ := zi_lt hf hm
      have hr := row_at hlt
      have ha : moveAt s e n x = moveRow e n x.1 x.2 s.2[x.2] := by simp [moveAt, hg]
      have hxm : x.1 ∈ p.terms := by
        have hz := List.mem_zipIdx hm
        rw [hz.2.2]
        exact List.getElem_mem _
      have hren := eq_ss (sm.rens x.1 hxm) ok_anew
      rw [ha]
      clear ha hg
      generalize s.2[x.2] = r at hr
      match junk, hj with
      | [a, b, c, d], _ =>
      have l1 : acc.length + [rowE (moveRow e n x.1 x.2 r)].length ≤ LIM := by simp; unfold LIM; omega
      have hno := eq_oi n x.2
      have hio := is_on n
      refine ⟨[some (.d (.int x.2)), some (.d x.1.e), some (.d (.int (mvRow e n x.1 x.2 r).1)), some (.d (.int (mvRow e n x.1 x.2 r).2))], ?_, rfl⟩
      have hb2 : acc.length + 1 ≤ LIM := by unfold LIM; omega
      cases hb : (e == noS) with
      | true =>
        rw [hb] at q1 q2
        simp [loopF, afterB, b__law_after, -idx_t, -idx_l, s1, hr, rowE, q1, q2, hb, hb2, moveRow, mvRow]
      | false =>
        rw [hb] at q1 q2
        cases n with
        | none =>
          cases hs : x.1.sale with
          | true => simp [loopF, afterB, b__law_after, -idx_t, -idx_l, s1, hr, rowE, q1, q2, hno, hio, t5, t1, t4, hs, hb, hb2, moveRow, mvRow]
          | false => simp [loopF, afterB, b__law_after, -idx_t, -idx_l, s1, hr, rowE, q1, q2, hno, hio, t5, t1, t4, hs, hb, hb2, moveRow, mvRow]
        | some m =>
          by_cases hm2 : m = x.2
          · subst hm2
            cases hrn : (x.1.ren == anewS) with
            | true =>
              rw [hrn] at hren
              simp [loopF, afterB, b__law_after, -idx_t, -idx_l, s1, hr, rowE, q1, q2, hno, hio, t5, t1, t3, t4, hren, hrn, hb, hb2, moveRow, mvRow]
            | false =>
              rw [hrn] at hren
              simp [loopF, afterB, b__law_after, -idx_t, -idx_l, s1, hr, rowE, q1, q2, hno, hio, t5, t1, t3, t4, hren, hrn, hb, hb2, moveRow, mvRow]
          · simp [loopF, afterB, b__law_after, -idx_t, -idx_l, s1, hr, rowE, q1, q2, hno, hio, t5, t1, t3, t4, hren, hm2, hb, hb2, moveRow, mvRow])
  match jk, hj with
  | [a, b, c, d], _ =>
  rw [← List.map_eq_flatMap] at q
  simp [afterB, b__law_after] at q
  have hg := sm.live
  have hu : T.put (.tup [4, 5]) (stE s) [some (.d p.e), some (.d (stE s)), some (.d (.str e)), some (.d (optE n)), none, none, none, none, none, none, none, none, none, none] = some [some (.d p.e), some (.d (stE s)), some (.d (.str e)), some (.d (optE n)), some (.d (.int s.1)), some (.d (.tuple (s.2.map rowE))), none, none, none, none, none, none, none, none] := rfl
  have hm : ∀ env : Env, env.length = 14 → env[0]? = some (some (.d p.e)) → ev O S.length (.ite (.cmp .gt (.idx (.var 0) (.con (.int 2))) (.con (.int 0))) (.idx (.var 0) (.con (.int 2))) (.bi .max (.cons (.comp [7, 8] (.tup [7, 8]) (.of (.idx (.var 0) (.con (.int 1)))) none (.var 8)) .nil))) env S = .ok (.d (.int (gage p))) S := by
    intro env hl h0
    match env, hl, h0 with
    | [x0, x1, x2, x3, x4, x5, x6, x7, x8, x9, x10, x11, x12, x13], _, h0 =>
    obtain rfl : x0 = some (.d p.e) := by simpa using h0
    by_cases h : 0 < p.most
    · simp [-idx_t, -idx_l, e2, h, gage]
    · simp [-idx_t, -idx_l, e2, e1, h, gage, ev_comp]
      rw [comp_map (enc := lifeE) (fun l => some (.int l.2)) _ _ (by intro l _; simp [compF, lifeE]), fm_map]
      simp [biD, intsOf_map]
      cases hq : p.lives with
      | nil => exact absurd hq hg
      | cons l ls => simp [maxI]
  generalize hgm : (E.ite (.cmp .gt (.idx (.var 0) (.con (.int 2))) (.con (.int 0))) (.idx (.var 0) (.con (.int 2))) (.bi .max (.cons (.comp [7, 8] (.tup [7, 8]) (.of (.idx (.var 0) (.con (.int 1)))) none (.var 8)) .nil))) = gm at hm
  have hbd : b__law_after = .cons (.unp [4, 5] (.var 1)) (.cons (.set 6 gm) (match b__law_after with | .cons _ (.cons _ z) => z | _ => .nil)) := by rw [← hgm]; rfl
  show outD S.length (exCs O fu S.length b__law_after [some (.d p.e), some (.d (stE s)), some (.d (.str e)), some (.d (optE n)), none, none, none, none, none, none, none, none, none, none] S) = _
  have s_1 : exC O fu S.length (.unp [4, 5] (.var 1)) [some (.d p.e), some (.d (stE s)), some (.d (.str e)), some (.d (optE n)), none, none, none, none, none, none, none, none, none, none] S = .nx [some (.d p.e), some (.d (stE s)), some (.d (.str e)), some (.d (optE n)), some (.d (.int s.1)), some (.d (.tuple (s.2.map rowE))), none, none, none, none, none, none, none, none] S := by
    simp [hu]
  have s_2 : exC O fu S.length (.set 6 gm) [some (.d p.e), some (.d (stE s)), some (.d (.str e)), some (.d (optE n)), some (.d (.int s.1)), some (.d (.tuple (s.2.map rowE))), none, none, none, none, none, none, none, none] S = .nx [some (.d p.e), some (.d (stE s)), some (.d (.str e)), some (.d (optE n)), some (.d (.int s.1)), some (.d (.tuple (s.2.map rowE))), some (.d (.int (gage p))), none, none, none, none, none, none, none] S := by
    simp [hm]
  rw [hbd, exCs_cons, s_1, then_nx, exCs_cons, s_2, then_nx]
  simp [b__law_after, exC_loop, -idx_t, -idx_l, e3, s0, q1, enumL_map, q]
  simp [stE, lawMove, Function.comp_def]
end
end Rf
namespace Rf
open PySem
/-! ### raw parts and states, as the later laws draw them -/
def DrawOk (O : Orc) (s : PyData) : Prop := ∀ k m : Int, 0 ≤ k → k ≤ 900 → 0 < m → ∃ v : Int, 0 ≤ v ∧ v < m ∧ ∀ S : Sto, O "_law_drawn" [.d s, .d (.int k), .d (.int m)] S = .d (.int v)
def rawB : Cs := match b__law_raw with
  | .cons _ (.cons _ (.cons _ (.cons (.loop _ _ b) _))) => b
  | _ => .nil
def lawStB : Cs := match b__law_state with
  | .cons _ (.cons _ (.cons (.loop _ _ b) _)) => b
  | _ => .nil
def knd5 (v : Int) : Str := if v = 0 then Str.ofString "a" else if v = 1 then Str.ofString "b" else if v < 4 then Str.ofString "ab" else Str.ofString ""
def ren2 (v : Int) : Str := if v = 0 then Str.ofString "anew" else Str.ofString "rest"
def pay3 (v : Int) : Str := if v = 0 then Str.ofString "maker" else if v = 1 then Str.ofString "seller" else Str.ofString "third"
def liv5 (v : Int) : List (Str × Int) := if v = 0 then [(Str.ofString "a", 0)] else if v = 1 then [(Str.ofString "a", 1)] else if v = 2 then [(Str.ofString "a", 0), (Str.ofString "b", 1)] else if v = 3 then [(Str.ofString "a", 2), (Str.ofString "b", 0)] else [(Str.ofString "b", 1)]
def lim4 (v : Int) : Int := if v < 2 then 0 else v
theorem ix_knd {p : Int} (h0 : 0 ≤ p) (h1 : p < 5) : idxD (.list [.str (Str.ofString "a"), .str (Str.ofString "b"), .str (Str.ofString "ab"), .str (Str.ofString "ab"), .str (Str.ofString "")]) (.int p) = some (.str (knd5 p)) := by
  obtain rfl | rfl | rfl | rfl | rfl : p = 0 ∨ p = 1 ∨ p = 2 ∨ p = 3 ∨ p = 4 := by omega
  all_goals rfl
theorem ix_ren {p : Int} (h0 : 0 ≤ p) (h1 : p < 2) : idxD (.list [.str (Str.ofString "anew"), .str (Str.ofString "rest")]) (.int p) = some (.str (ren2 p)) := by
  obtain rfl | rfl : p = 0 ∨ p = 1 := by omega
  all_goals rfl
theorem ix_pay {p : Int} (h0 : 0 ≤ p) (h1 : p < 3) : idxD (.list [.str (Str.ofString "maker"), .str (Str.ofString "seller"), .str (Str.ofString "third")]) (.int p) = some (.str (pay3 p)) := by
  obtain rfl | rfl | rfl : p = 0 ∨ p = 1 ∨ p = 2 := by omega
  all_goals rfl
theorem ix_lim {p : Int} (h0 : 0 ≤ p) (h1 : p < 4) : idxD (.list [.int 0, .int 0, .int 2, .int 3]) (.int p) = some (.int (lim4 p)) := by
  obtain rfl | rfl | rfl | rfl : p = 0 ∨ p = 1 ∨ p = 2 ∨ p = 3 := by omega
  all_goals rfl
def lvE (v : Int) : PyData := .tuple ((liv5 v).map lifeE)
theorem ix_liv {p : Int} (h0 : 0 ≤ p) (h1 : p < 5) : idxD (.list [.tuple [.tuple [.str (Str.ofString "a"), .int 0]], .tuple [.tuple [.str (Str.ofString "a"), .int 1]], .tuple [.tuple [.str (Str.ofString "a"), .int 0], .tuple [.str (Str.ofString "b"), .int 1]],
    .tuple [.tuple [.str (Str.ofString "a"), .int 2], .tuple [.str (Str.ofString "b"), .int 0]], .tuple [.tuple [.str (Str.ofString "b"), .int 1]]]) (.int p) = some (lvE p) := by
  obtain rfl | rfl | rfl | rfl | rfl : p = 0 ∨ p = 1 ∨ p = 2 ∨ p = 3 ∨ p = 4 := by omega
  all_goals rfl
theorem knd5_in (v : Int) : knd5 v ∈ KNDS := by unfold knd5; split <;> (try split) <;> (try split) <;> simp [KNDS]
theorem ren2_in (v : Int) : ren2 v ∈ RENS := by unfold ren2; split <;> simp [RENS]
theorem pay3_in (v : Int) : pay3 v ∈ NAMES := by unfold pay3; split <;> (try split) <;> simp [NAMES]
theorem pay3_inj {v w : Int} (h0 : 0 ≤ v) (h1 : v < 3) (h2 : 0 ≤ w) (h3 : w < 3) (h : pay3 v = pay3 w) : v = w := by
  obtain rfl | rfl | rfl : v = 0 ∨ v = 1 ∨ v = 2 := by omega
  all_goals obtain rfl | rfl | rfl : w = 0 ∨ w = 1 ∨ w = 2 := by omega
  all_goals first | rfl | exact absurd h (by decide +kernel)
/-- a raw term -/
def RawTm (k : Int) (t : Tm) : Prop := VTm t ∧ t.pay = pay3 k
/-- raw parts -/
structure RawPt (p : Pt) : Prop where
  v : VPt p
  ab : ∃ x, 0 ≤ x ∧ x < 5 ∧ p.lives = liv5 x
section
variable {O : Orc} {fu : Nat}
theorem raw_loop {sc : PyData} (hd : DrawOk O sc) {at_ : Int} (a0 : 0 ≤ at_) (a1 : at_ ≤ 800) {v2 v3 v4 : Option Wd} :
    ∀ (ks : List Int), (∀ k ∈ ks, 0 ≤ k ∧ k < 3) → ∃ ts : List Tm, Paired RawTm ks ts ∧ ∀ (S : Sto) (acc : List PyData) (j : Env), j.length = 8 → acc.length + ks.length ≤ LIM → ∃ j' : Env, j'.length = 8 ∧
      forGo (loopF O fu S.length (.v 6) rawB) (ks.map .int) ([some (.d sc), some (.d (.int at_)), v2, v3, v4, some (.r S.length)] ++ j) (S ++ [.lst acc]) =
        .nx ([some (.d sc), some (.d (.int at_)), v2, v3, v4, some (.r S.length)] ++ j') (S ++ [.lst (acc ++ ts.map Tm.e)])
  | [], _ => ⟨[], .nil, fun S acc j hj _ => ⟨j, hj, by simp [forGo]⟩⟩
  | k :: r, hk => by
    have hk0 := hk k (List.mem_cons_self ..)
    obtain ⟨ts, hp, q⟩ := raw_loop hd a0 a1 (v2 := v2) (v3 := v3) (v4 := v4) r (fun x hx => hk x (List.mem_cons_of_mem _ hx))
    obtain ⟨x0, x00, x01, e0⟩ := hd (at_ + 4 + 6 * k) 4 (by omega) (by omega) (by omega)
    obtain ⟨x1, x10, x11, e1⟩ := hd (at_ + 4 + 6 * k + 1) 5 (by omega) (by omega) (by omega)
    obtain ⟨x2, x20, x21, e2⟩ := hd (at_ + 4 + 6 * k + 2) 2 (by omega) (by omega) (by omega)
    obtain ⟨x3, x30, x31, e3⟩ := hd (at_ + 4 + 6 * k + 3) 3 (by omega) (by omega) (by omega)
    obtain ⟨x4, x40, x41, e4⟩ := hd (at_ + 4 + 6 * k + 4) 2 (by omega) (by omega) (by omega)
    have i1 := ix_knd x10 x11
    have i2 := ix_ren x20 x21
    have i3 := ix_pay hk0.1 hk0.2
    have b6 : binD .mul (.int 6) (.int k) = some (.int (6 * k)) := by
      show (if (-(2 ^ 64) < (6 : Int) ∧ (6 : Int) < 2 ^ 64) ∨ (-(2 ^ 64) < k ∧ k < 2 ^ 64) then some (PyData.int (6 * k)) else none) = _
      rw [if_pos (.inl (by decide))]
    obtain ⟨sb, hsb⟩ : ∃ sb : Bool, (x4 == 0) = sb := ⟨_, rfl⟩
    refine ⟨⟨pay3 k, 1 + x0, knd5 x1, ren2 x2, x3, sb⟩ :: ts, .cons ⟨⟨pay3_in k, ⟨by show 1 ≤ 1 + x0; omega, by show 1 + x0 ≤ 6; omega⟩, knd5_in x1, ren2_in x2, ⟨x30, by show x3 ≤ 2; omega⟩⟩, rfl⟩ hp, fun S acc j hj hb => ?_⟩
    rw [List.length_cons] at hb
    match j, hj with
    | [j6, j7, j8, j9, j10, j11, j12, j13], _ =>
    obtain ⟨j', hj', q⟩ := q S (acc ++ [Tm.e ⟨pay3 k, 1 + x0, knd5 x1, ren2 x2, x3, sb⟩]) [some (.d (.int k)), some (.d (.int (at_ + 4 + 6 * k))), some (.d (.int (1 + x0))), some (.d (.str (knd5 x1))), some (.d (.str (ren2 x2))), some (.d (.int x3)), some (.d (.str (pay3 k))), some (.d (.bool (sb)))] rfl (by simp; omega)
    refine ⟨j', hj', ?_⟩
    have hl2 : acc.length + [Tm.e ⟨pay3 k, 1 + x0, knd5 x1, ren2 x2, x3, sb⟩].length ≤ LIM := by simp; omega
    rw [List.map_cons, List.map_cons, show acc ++ (Tm.e ⟨pay3 k, 1 + x0, knd5 x1, ren2 x2, x3, sb⟩ :: ts.map Tm.e) = acc ++ [Tm.e ⟨pay3 k, 1 + x0, knd5 x1, ren2 x2, x3, sb⟩] ++ ts.map Tm.e by simp, ← q]
    have e5 := pushIf_last (S := S) (env := [some (.d sc), some (.d (.int at_)), v2, v3, v4, some (.r S.length), some (.d (.int k)), some (.d (.int (at_ + 4 + 6 * k))), some (.d (.int (1 + x0))), some (.d (.str (knd5 x1))), some (.d (.str (ren2 x2))), some (.d (.int x3)), some (.d (.str (pay3 k))), some (.d (.bool (sb)))]) hl2
    generalize knd5 x1 = K1 at *
    generalize ren2 x2 = K2 at *
    generalize pay3 k = K3 at *
    simp [forGo, loopF, rawB, b__law_raw, e0, e1, e2, e3, e4, -idx_t, -idx_l, i1, i2, i3, b6, hsb]
    unfold Tm.e at e5
    simp [e5, Tm.e]
theorem paired_nd : ∀ {n : Nat} {a : Int} {ts : List Tm}, 0 ≤ a → a + n ≤ 3 → Paired RawTm (upTo a n) ts → (ts.map (·.pay)).Nodup ∧ ts.length = n ∧ (∀ t ∈ ts, VTm t) ∧ ∀ t ∈ ts, ∃ v, a ≤ v ∧ v < 3 ∧ t.pay = pay3 v
  | 0, a, ts, _, _, h => by cases h; simp
  | n + 1, a, ts, h0, h1, h => by
    cases h with
    | cons ht hr =>
      rename_i t ts
      obtain ⟨i1, i2, i3, i4⟩ := paired_nd (by omega) (by push_cast at h1 ⊢; omega) hr
      refine ⟨?_, by simp [i2], ?_, ?_⟩
      · rw [List.map_cons, List.nodup_cons]
        refine ⟨fun hm => ?_, i1⟩
        obtain ⟨u, hu, e⟩ := List.mem_map.mp hm
        obtain ⟨v, v0, v1, ev⟩ := i4 u hu
        have := pay3_inj (v := v) (w := a) (by omega) v1 h0 (by push_cast at h1; omega) (by rw [← ev, e]; exact ht.2)
        omega
      · intro u hu
        rcases List.mem_cons.mp hu with rfl | hu
        · exact ht.1
        · exact i3 u hu
      · intro u hu
        rcases List.mem_cons.mp hu with rfl | hu
        · exact ⟨a, Int.le_refl _, by push_cast at h1; omega, ht.2⟩
        · obtain ⟨v, v0, v1, ev⟩ := i4 u hu
          exact ⟨v, by omega, v1, ev⟩
end
end Rf
namespace Rf
open PySem
theorem liv5_lk {v : Int} : (liv5 v).map (·.1) ∈ LKS := by
  unfold liv5
  split
  · simp [LKS]
  · split
    · simp [LKS]
    · split
      · simp [LKS]
      · split <;> simp [LKS]
theorem liv5_least {v : Int} : ∀ l ∈ liv5 v, 0 ≤ l.2 ∧ l.2 ≤ 6 := by
  unfold liv5
  split
  · simp
  · split
    · simp
    · split
      · simp
      · split <;> simp
theorem liv5_most {v w : Int} (h0 : 0 ≤ w) (h1 : w < 4) : lim4 w = 0 ∨ (minI ((liv5 v).map (·.2)) ≤ lim4 w ∧ lim4 w ≤ 8) := by
  have hm : minI ((liv5 v).map (·.2)) ≤ 1 := by
    unfold liv5
    split
    · simp [minI, minL]
    · split
      · simp [minI, minL]
      · split
        · simp [minI, minL]
        · split <;> simp [minI, minL]
  unfold lim4
  split
  · exact .inl rfl
  · exact .inr ⟨by omega, by omega⟩
section
variable {O : Orc} {fu : Nat}
theorem raw_run {sc : PyData} (hd : DrawOk O sc) {at_ m : Int} (a0 : 0 ≤ at_) (a1 : at_ ≤ 800) (m0 : 0 ≤ m) (m1 : m ≤ 3) : ∃ p : Pt, RawPt p ∧ ∀ S, runD O fu d__law_raw [.d sc, .d (.int at_), .d (.int m)] S = .d p.e := by
  obtain ⟨x, x0, x1, ex⟩ := hd at_ 5 a0 (by omega) (by omega)
  obtain ⟨y, y0, y1, ey⟩ := hd (at_ + 1) 4 (by omega) (by omega) (by omega)
  obtain ⟨n, n0, n1, en⟩ := hd (at_ + 2) (m + 1) (by omega) (by omega) (by omega)
  obtain ⟨pr, p0, p1, ep⟩ := hd (at_ + 3) 4 (by omega) (by omega) (by omega)
  obtain ⟨n, rfl⟩ : ∃ q : Nat, n = q := ⟨n.toNat, by omega⟩
  obtain ⟨ts, hp, q⟩ := raw_loop (fu := fu) hd a0 a1 (v2 := some (.d (.int m))) (v3 := some (.d (lvE x))) (v4 := some (.d (.int (lim4 y)))) (upTo 0 n) (fun k hk => by have := upTo_mem _ _ _ hk; omega)
  obtain ⟨d1, d2, d3, _⟩ := paired_nd (by omega) (by omega) hp
  have i1 := ix_liv x0 x1
  have i2 := ix_lim y0 y1
  refine ⟨⟨1 + pr, liv5 x, lim4 y, ts⟩, ⟨⟨⟨by show 1 ≤ 1 + pr; omega, by show 1 + pr ≤ 20; omega⟩, liv5_lk, liv5_least, liv5_most y0 y1, by show ts.length ≤ 3; omega, d3, d1⟩, x, x0, x1, rfl⟩, fun S => ?_⟩
  obtain ⟨j', hj', q⟩ := q S [] [none, none, none, none, none, none, none, none] rfl (by rw [upTo_len, List.length_nil]; unfold LIM; omega)
  match j', hj' with
  | [j6, j7, j8, j9, j10, j11, j12, j13], _ =>
  have hL : exC O fu S.length (.loop (.v 6) (.range1 (.cons (.call "_law_drawn" (.cons (.var 0) (.cons (.bin .add (.var 1) (.con (.int 2))) (.cons (.bin .add (.var 2) (.con (.int 1))) .nil)))) .nil)) rawB) [some (.d sc), some (.d (.int at_)), some (.d (.int m)), some (.d (lvE x)), some (.d (.int (lim4 y))), some (.r S.length), none, none, none, none, none, none, none, none] (S ++ [.lst []]) =
      .nx [some (.d sc), some (.d (.int at_)), some (.d (.int m)), some (.d (lvE x)), some (.d (.int (lim4 y))), some (.r S.length), j6, j7, j8, j9, j10, j11, j12, j13] (S ++ [.lst (ts.map Tm.e)]) := by
    rw [exC_loop, evI_upTo (n := n) (by simp [en]) (by omega)]
    simp only [List.cons_append, List.nil_append] at q
    generalize (upTo 0 n).map PyData.int = xs at q
    generalize loopF O fu S.length (.v 6) rawB = st at q
    simp only [rs_ok, lockAll_nil, q, free_nx0, freeAll_nil]
  have hb : b__law_raw = .cons (match b__law_raw with | .cons a _ => a | _ => .ret (.con .none)) (.cons (.set 3 (.idx (.var 3) (.call "_law_drawn" (.cons (.var 0) (.cons (.var 1) (.cons (.con (.int 5)) .nil)))))) (.cons (match b__law_raw with | .cons _ (.cons _ (.cons a _)) => a | _ => .ret (.con .none))
    (.cons (.loop (.v 6) (.range1 (.cons (.call "_law_drawn" (.cons (.var 0) (.cons (.bin .add (.var 1) (.con (.int 2))) (.cons (.bin .add (.var 2) (.con (.int 1))) .nil)))) .nil)) rawB) (match b__law_raw with | .cons _ (.cons _ (.cons _ (.cons _ z))) => z | _ => .nil)))) := rfl
  generalize (C.loop (.v 6) (.range1 (.cons (.call "_law_drawn" (.cons (.var 0) (.cons (.bin .add (.var 1) (.con (.int 2))) (.cons (.bin .add (.var 2) (.con (.int 1))) .nil)))) .nil)) rawB) = gl at hL hb
  show outD S.length (exCs O fu S.length b__law_raw [some (.d sc), some (.d (.int at_)), some (.d (.int m)), none, none, none, none, none, none, none, none, none, none, none] S) = _
  have s_1 : exC O fu S.length (match b__law_raw with | .cons a _ => a | _ => .ret (.con .none)) [some (.d sc), some (.d (.int at_)), some (.d (.int m)), none, none, none, none, none, none, none, none, none, none, none] S =
      .nx [some (.d sc), some (.d (.int at_)), some (.d (.int m)), some (.d (.list [.tuple [.tuple [.str (Str.ofString "a"), .int 0]], .tuple [.tuple [.str (Str.ofString "a"), .int 1]], .tuple [.tuple [.str (Str.ofString "a"), .int 0], .tuple [.str (Str.ofString "b"), .int 1]],
        .tuple [.tuple [.str (Str.ofString "a"), .int 2], .tuple [.str (Str.ofString "b"), .int 0]], .tuple [.tuple [.str (Str.ofString "b"), .int 1]]])), none, none, none, none, none, none, none, none, none, none] S := by simp [b__law_raw]
  have s_2 : exC O fu S.length (.set 3 (.idx (.var 3) (.call "_law_drawn" (.cons (.var 0) (.cons (.var 1) (.cons (.con (.int 5)) .nil)))))) [some (.d sc), some (.d (.int at_)), some (.d (.int m)), some (.d (.list [.tuple [.tuple [.str (Str.ofString "a"), .int 0]], .tuple [.tuple [.str (Str.ofString "a"), .int 1]], .tuple [.tuple [.str (Str.ofString "a"), .int 0], .tuple [.str (Str.ofString "b"), .int 1]],
        .tuple [.tuple [.str (Str.ofString "a"), .int 2], .tuple [.str (Str.ofString "b"), .int 0]], .tuple [.tuple [.str (Str.ofString "b"), .int 1]]])), none, none, none, none, none, none, none, none, none, none] S =
      .nx [some (.d sc), some (.d (.int at_)), some (.d (.int m)), some (.d (lvE x)), none, none, none, none, none, none, none, none, none, none] S := by
    generalize PyData.list [.tuple [.tuple [.str (Str.ofString "a"), .int 0]], .tuple [.tuple [.str (Str.ofString "a"), .int 1]], .tuple [.tuple [.str (Str.ofString "a"), .int 0], .tuple [.str (Str.ofString "b"), .int 1]],
        .tuple [.tuple [.str (Str.ofString "a"), .int 2], .tuple [.str (Str.ofString "b"), .int 0]], .tuple [.tuple [.str (Str.ofString "b"), .int 1]]] = L at i1
    simp [ex, i1, -idx_t, -idx_l]
  have s_3 : exC O fu S.length (match b__law_raw with | .cons _ (.cons _ (.cons a _)) => a | _ => .ret (.con .none)) [some (.d sc), some (.d (.int at_)), some (.d (.int m)), some (.d (lvE x)), none, none, none, none, none, none, none, none, none, none] S =
      .nx [some (.d sc), some (.d (.int at_)), some (.d (.int m)), some (.d (lvE x)), some (.d (.int (lim4 y))), some (.r S.length), none, none, none, none, none, none, none, none] (S ++ [.lst []]) := by
    simp [b__law_raw, ey, i2, -idx_t, -idx_l]
  rw [hb, exCs_cons, s_1, then_nx, exCs_cons, s_2, then_nx, exCs_cons, s_3, then_nx, exCs_cons, hL, then_nx]
  simp [b__law_raw, ep, Pt.e, lvE]
/-- a state of any age, days and claims -/
theorem st_loop {sc : PyData} (hd : DrawOk O sc) {at_ : Int} (a0 : 0 ≤ at_) (a1 : at_ ≤ 800) {v2 v3 : Option Wd} :
    ∀ (ts : List Tm) (i : Nat), (∀ t ∈ ts, VTm t) → i + ts.length ≤ 3 → ∃ rs : List Row, Paired RowOk ts rs ∧ ∀ (S : Sto) (acc : List PyData) (j : Env), j.length = 3 → acc.length + ts.length ≤ LIM → ∃ j' : Env, j'.length = 3 ∧
      forGo (loopF O fu S.length (.tup [6, 7]) lawStB) (enumL i (ts.map Tm.e)) ([some (.d sc), some (.d (.int at_)), v2, v3, none, some (.r S.length)] ++ j) (S ++ [.lst acc]) =
        .nx ([some (.d sc), some (.d (.int at_)), v2, v3, none, some (.r S.length)] ++ j') (S ++ [.lst (acc ++ rs.map rowE)])
  | [], _, _, _ => ⟨[], .nil, fun S acc j hj _ => ⟨j, hj, by simp [forGo, enumL]⟩⟩
  | t :: r, i, hv, hi => by
    rw [List.length_cons] at hi
    obtain ⟨rs, hp, q⟩ := st_loop hd a0 a1 (v2 := v2) (v3 := v3) r (i + 1) (fun x hx => hv x (List.mem_cons_of_mem _ hx)) (by omega)
    have ht := hv t (List.mem_cons_self ..)
    have hcl := ht.cl
    have hdy := ht.days
    have b2 : ∀ k : Int, binD .mul (.int 2) (.int k) = some (.int (2 * k)) := fun k => by
      show (if (-(2 ^ 64) < (2 : Int) ∧ (2 : Int) < 2 ^ 64) ∨ (-(2 ^ 64) < k ∧ k < 2 ^ 64) then some (PyData.int (2 * k)) else none) = _
      rw [if_pos (.inl (by decide))]
    obtain ⟨c, c0, c1, ec⟩ := hd (at_ + 2 + 2 * i) (t.cl + 1) (by omega) (by omega) (by omega)
    obtain ⟨d, d0, d1, ed⟩ := hd (at_ + 1 + 2 * i) (t.days + 1) (by omega) (by omega) (by omega)
    obtain ⟨z, hz, hzr⟩ : ∃ z : Int, (if 0 < t.cl then c else -1) = z ∧ (if t.cl = 0 then z = -1 else 0 ≤ z ∧ z ≤ t.cl) := by
      refine ⟨_, rfl, ?_⟩
      by_cases h : 0 < t.cl
      · rw [if_pos h, if_neg (by omega)]; omega
      · rw [if_neg h, if_pos (by omega)]
    refine ⟨(d, z) :: rs, .cons ⟨⟨d0, by show d ≤ t.days; omega⟩, hzr⟩ hp, fun S acc j hj hb => ?_⟩
    rw [List.length_cons] at hb
    match j, hj with
    | [j6, j7, j8], _ =>
    obtain ⟨j', hj', q⟩ := q S (acc ++ [rowE (d, z)]) [some (.d (.int i)), some (.d t.e), some (.d (.int z))] rfl (by simp; omega)
    refine ⟨j', hj', ?_⟩
    have hl2 : acc.length + [rowE (d, z)].length ≤ LIM := by simp; omega
    rw [List.map_cons, List.map_cons, show acc ++ (rowE (d, z) :: rs.map rowE) = acc ++ [rowE (d, z)] ++ rs.map rowE by simp, ← q]
    have e5 := pushIf_last (S := S) (env := [some (.d sc), some (.d (.int at_)), v2, v3, none, some (.r S.length), some (.d (.int i)), some (.d t.e), some (.d (.int z))]) hl2
    unfold rowE at e5
    by_cases h : 0 < t.cl
    · rw [if_pos h] at hz
      subst hz
      simp [forGo, enumL, loopF, lawStB, b__law_state, -idx_t, -idx_l, t1, t4, h, ec, ed, b2]
      simp [e5, rowE]
    · rw [if_neg h] at hz
      subst hz
      simp [forGo, enumL, loopF, lawStB, b__law_state, -idx_t, -idx_l, t1, t4, h, ec, ed, b2]
      simp [e5, rowE]
theorem paired_get {P : Tm → Row → Prop} : ∀ {ts : List Tm} {rs : List Row}, Paired P ts rs → rs.length = ts.length ∧ ∀ (i : Nat) t r, ts[i]? = some t → rs[i]? = some r → P t r
  | _, _, .nil => ⟨rfl, fun i t r h => by simp at h⟩
  | _, _, .cons a b => by
    obtain ⟨h1, h2⟩ := paired_get b
    refine ⟨by simp [h1], fun i t r e1 e2 => ?_⟩
    cases i with
    | zero => simp at e1 e2; subst e1 e2; exact a
    | succ i => exact h2 i t r (by simpa using e1) (by simpa using e2)
theorem ev_gage {p : Pt} (hl : p.lives ≠ []) {env : Env} (h0 : env[2]? = some (some (.d p.e))) (h4 : env.length = 9) {lo : Nat} {S : Sto} : ev O lo (.ite (.cmp .gt (.idx (.var 2) (.con (.int 2))) (.con (.int 0))) (.idx (.var 2) (.con (.int 2))) (.bi .max (.cons (.comp [4] (.v 4) (.of (.idx (.var 2) (.con (.int 1)))) none (.idx (.var 4) (.con (.int 1)))) .nil))) env S = .ok (.d (.int (gage p))) S := by
  match env, h4, h0 with
  | [x0, x1, x2, x3, x4, x5, x6, x7, x8], _, h0 =>
  obtain rfl : x2 = some (.d p.e) := by simpa using h0
  by_cases h : 0 < p.most
  · simp [-idx_t, -idx_l, e2, h, gage]
  · simp [-idx_t, -idx_l, e2, e1, h, gage, ev_comp]
    rw [comp_map (enc := lifeE) (fun l => some (.int l.2)) _ _ (by intro l _; simp [compF, -idx_t, -idx_l, l1]), fm_map]
    simp [biD, intsOf_map]
    cases hq : p.lives with
    | nil => exact absurd hq hl
    | cons l ls => simp [maxI]
theorem state_run {sc : PyData} (hd : DrawOk O sc) {at_ : Int} (a0 : 0 ≤ at_) (a1 : at_ ≤ 800) {p : Pt} (hp : VPt p) : ∃ s : St, StOk p s ∧ ∀ S, runD O fu d__law_state [.d sc, .d (.int at_), .d p.e] S = .d (stE s) := by
  have po := hp.ok
  have g0 := po.gage
  obtain ⟨a, ag0, ag1, ea⟩ := hd at_ (gage p + 1) a0 (by omega) (by omega)
  obtain ⟨rs, hr, q⟩ := st_loop (fu := fu) hd a0 a1 (v2 := some (.d p.e)) (v3 := some (.d (.int (gage p)))) p.terms 0 hp.tv (by have := hp.terms; omega)
  obtain ⟨r1, r2⟩ := paired_get hr
  refine ⟨(a, rs), ⟨r1, ⟨ag0, by show a ≤ gage p; omega⟩, r2⟩, fun S => ?_⟩
  obtain ⟨j', hj', q⟩ := q S [] [none, none, none] rfl (by have := hp.terms; simp; unfold LIM; omega)
  match j', hj' with
  | [j6, j7, j8], _ =>
  have hg := fun (env : Env) (h0 : env[2]? = some (some (.d p.e))) (h4 : env.length = 9) => ev_gage (O := O) (lo := S.length) (S := S) po.small.live h0 h4
  generalize hgm : (E.ite (.cmp .gt (.idx (.var 2) (.con (.int 2))) (.con (.int 0))) (.idx (.var 2) (.con (.int 2))) (.bi .max (.cons (.comp [4] (.v 4) (.of (.idx (.var 2) (.con (.int 1)))) none (.idx (.var 4) (.con (.int 1)))) .nil))) = gm at hg
  have hb : b__law_state = .cons (.set 3 gm) (.cons (.own 5 .nil) (.cons (.loop (.tup [6, 7]) (.enum (.cons (.idx (.var 2) (.con (.int 3))) .nil)) lawStB) (match b__law_state with | .cons _ (.cons _ (.cons _ z)) => z | _ => .nil))) := by rw [← hgm]; rfl
  show outD S.length (exCs O fu S.length b__law_state [some (.d sc), some (.d (.int at_)), some (.d p.e), none, none, none, none, none, none] S) = _
  have s_1 : exC O fu S.length (.set 3 gm) [some (.d sc), some (.d (.int at_)), some (.d p.e), none, none, none, none, none, none] S = .nx [some (.d sc), some (.d (.int at_)), some (.d p.e), some (.d (.int (gage p))), none, none, none, none, none] S := by
    simp [hg]
  simp only [List.cons_append, List.nil_append] at q
  rw [hb, exCs_cons, s_1, then_nx]
  simp [exC_loop, -idx_t, -idx_l, e3, q]
  simp [b__law_state, ea, stE]
end
end Rf
namespace Rf
open PySem
/-! ### refusals -/
def covK (p : Pt) (s : St) : List Str := (p.lives.filter fun l => !(able p s l.1).isEmpty).map (·.1)
def uncK (p : Pt) (s : St) : List Str := (p.lives.filter fun l => (able p s l.1).isEmpty).map (·.1)
def clsK (p : Pt) (s : St) : List Str := (covK p s).filter fun k => !decide (k ∈ covK p (endDay p s.1 s.2))
def opens (p : Pt) (s : St) (k : Str) : Int := match (able p s k).map fun n => (s.2[n]?.getD (0, 0)).1 with
  | [] => 0
  | a :: r => maxL a r
def whyL (t : Tm) (r : Row) (k : Str) : List Str := (if r.2 = 0 then [Str.ofString "claims"] else []) ++ ((if r.1 = 0 then [Str.ofString "days"] else []) ++ (if strIn k t.kinds = true then [] else [Str.ofString "kind"]))
theorem fm_filter {α : Type} (f : α → Bool) (g : α → PyData) : ∀ xs : List α, xs.filterMap (fun x => if f x = true then some (g x) else none) = (xs.filter f).map g
  | [] => rfl
  | x :: xs => by
    rw [List.filterMap_cons, List.filter_cons, fm_filter f g xs]
    split <;> simp_all
theorem covK_ok {p : Pt} (sm : Small p) {s : St} : ∀ k ∈ covK p s, okD (.str k) = true := by
  intro k hk
  obtain ⟨l, hl, rfl⟩ := List.mem_map.mp hk
  exact sm.kinds l ((List.mem_filter.mp hl).1)
section
variable {O : Orc} {fu : Nat} {S : Sto}
theorem r_covered {p : Pt} {s : St} (h1 : ∀ k S, O "askable" [.d p.e, .d (stE s), .d (.str k)] S = .d (.list ((able p s k).map fun n => .int (n : Nat)))) :
    runD O fu d_covered [.d p.e, .d (stE s)] S = .d (.list ((covK p s).map .str)) := by
  have hu : T.put (.tup [2, 3, 4, 5]) p.e [some (.d p.e), some (.d (stE s)), none, none, none, none, none, none] = some [some (.d p.e), some (.d (stE s)), some (.d (.int p.price)), some (.d (.tuple (p.lives.map lifeE))), some (.d (.int p.most)), some (.d (.tuple (p.terms.map Tm.e))), none, none] := rfl
  simp [runD, d_covered, b_covered, hu, ev_comp]
  rw [comp_map (enc := lifeE) (fun l => if (!(able p s l.1).isEmpty) = true then some (.str l.1) else none) _ _ (by
    intro l _
    cases hq : able p s l.1 with
    | nil => simp [compF, lifeE, h1, hq]
    | cons a r => simp [compF, lifeE, h1, hq]), fm_filter]
  simp [covK]
theorem r_uncovered {p : Pt} {s : St} (h0 : ∀ S, O "check_state" [.d p.e, .d (stE s)] S = .d .none) (h1 : ∀ k S, O "askable" [.d p.e, .d (stE s), .d (.str k)] S = .d (.list ((able p s k).map fun n => .int (n : Nat)))) :
    runD O fu d_uncovered [.d p.e, .d (stE s)] S = .d (.list ((uncK p s).map .str)) := by
  have hu : T.put (.tup [2, 3, 4, 5]) p.e [some (.d p.e), some (.d (stE s)), none, none, none, none, none, none] = some [some (.d p.e), some (.d (stE s)), some (.d (.int p.price)), some (.d (.tuple (p.lives.map lifeE))), some (.d (.int p.most)), some (.d (.tuple (p.terms.map Tm.e))), none, none] := rfl
  simp [runD, d_uncovered, b_uncovered, hu, ev_comp, h0]
  rw [comp_map (enc := lifeE) (fun l => if (able p s l.1).isEmpty = true then some (.str l.1) else none) _ _ (by
    intro l _
    cases hq : able p s l.1 with
    | nil => simp [compF, lifeE, h1, hq]
    | cons a r => simp [compF, lifeE, h1, hq]; omega), fm_filter]
  simp [uncK]
theorem r_closing {p : Pt} (sm : Small p) {s : St} (h0 : ∀ S, O "check_state" [.d p.e, .d (stE s)] S = .d .none) (h1 : ∀ S, O "state_after_quiet" [.d p.e, .d (stE s)] S = .d (stE (endDay p s.1 s.2))) (h2 : ∀ s S, O "covered" [.d p.e, .d (stE s)] S = .d (.list ((covK p s).map .str))) :
    runD O fu d_closing [.d p.e, .d (stE s)] S = .d (.list ((clsK p s).map .str)) := by
  simp [runD, d_closing, b_closing, ev_comp, h0, h1, h2]
  rw [comp_map (enc := PyData.str) (fun k => if (!decide (k ∈ covK p (endDay p s.1 s.2))) = true then some (.str k) else none) _ _ (by
    intro k hk
    have hn := nin_strs (covK_ok sm k hk) (covK_ok sm (s := endDay p s.1 s.2))
    by_cases h : k ∈ covK p (endDay p s.1 s.2)
    · simp [compF, hn, h]
    · simp [compF, hn, h]), fm_filter]
  simp [clsK]
theorem r_days_open {p : Pt} {s : St} (hf : Fits p s) {k : Str} (h0 : ∀ S, O "check_state" [.d p.e, .d (stE s)] S = .d .none) (h3 : ∀ S, O "check_kind" [.d (.str k)] S = .d .none) (h1 : ∀ S, O "askable" [.d p.e, .d (stE s), .d (.str k)] S = .d (.list ((able p s k).map fun n => .int (n : Nat)))) :
    runD O fu d_days_open [.d p.e, .d (stE s), .d (.str k)] S = .d (.int (opens p s k)) := by
  have hu : T.put (.tup [3, 4]) (stE s) [some (.d p.e), some (.d (stE s)), some (.d (.str k)), none, none, none] = some [some (.d p.e), some (.d (stE s)), some (.d (.str k)), some (.d (.int s.1)), some (.d (.tuple (s.2.map rowE))), none] := rfl
  simp [runD, d_days_open, b_days_open, hu, ev_comp, h0, h3, h1]
  rw [comp_map (enc := fun n : Nat => PyData.int n) (fun n => some (.int (s.2[n]?.getD (0, 0)).1)) _ _ (by
    intro n hn
    obtain ⟨t, r, e1, e2, _⟩ := able_at hn
    have hlt : n < s.2.length := by
      rcases Nat.lt_or_ge n s.2.length with z | z
      · exact z
      · rw [List.getElem?_eq_none z] at e2; cases e2
    have hr := row_at hlt
    have hg : s.2[n]?.getD (0, 0) = s.2[n] := by simp [hlt]
    rw [hg]
    generalize s.2[n] = r at hr
    have i0 : idxD (rowE r) (.int 0) = some (.int r.1) := rfl
    simp [compF, -idx_t, -idx_l, hr, i0]), fm_map]
  have e2 := intsOf_map (fun n : Nat => (s.2[n]?.getD (0, 0)).1) (able p s k)
  simp [asL, e2]
  unfold opens
  generalize (able p s k).map (fun n => (s.2[n]?.getD (0, 0)).1) = L
  cases L <;> simp [maxW]
theorem r_check_number_ok {d : PyData} {a b : Int} (hn : KN O) (h : isNum a b d = true) : runD O fu d_check_number [.d d, .d (.int a), .d (.int b)] S = .d .none := by
  unfold KN at hn
  simp [runD, d_check_number, b_check_number, hn, h]
theorem r_check_number_no {d : PyData} {a b : Int} (hn : KN O) (h : isNum a b d = false) : runD O fu d_check_number [.d d, .d (.int a), .d (.int b)] S = .ex "InvalidNumber" := by
  unfold KN at hn
  simp [runD, d_check_number, b_check_number, hn, h]
theorem r_check_term_number {p : Pt} {d : PyData} {r : Cr} (h1 : ∀ S, O "check_number" [.d d, .d (.int 0), .d (.int (p.terms.length - 1))] S = r) (hr : r = .d .none ∨ r = .ex "InvalidNumber") : runD O fu d_check_term_number [.d p.e, .d d] S = r := by
  have hu : T.put (.tup [2, 3, 4, 5]) p.e [some (.d p.e), some (.d d), none, none, none, none] = some [some (.d p.e), some (.d d), some (.d (.int p.price)), some (.d (.tuple (p.lives.map lifeE))), some (.d (.int p.most)), some (.d (.tuple (p.terms.map Tm.e)))] := rfl
  rcases hr with rfl | rfl
  · simp [runD, d_check_term_number, b_check_term_number, hu, h1]
  · simp [runD, d_check_term_number, b_check_term_number, hu, h1]
theorem r_reasons {p : Pt} {s : St} (hf : Fits p s) {n : Nat} (hn : n < p.terms.length) {k : Str} (h0 : ∀ S, O "check_state" [.d p.e, .d (stE s)] S = .d .none) (h1 : ∀ S, O "check_term_number" [.d p.e, .d (.int n)] S = .d .none) (h2 : ∀ S, O "check_kind" [.d (.str k)] S = .d .none) :
    runD O fu d_reasons [.d p.e, .d (stE s), .d (.int n), .d (.str k)] S = .fresh ((whyL p.terms[n] (s.2[n]'(by unfold Fits at hf; omega)) k).map .str) := by
  have hlt : n < s.2.length := by unfold Fits at hf; omega
  have hr := row_at hlt
  have ht : idxD (.tuple (p.terms.map Tm.e)) (.int n) = some p.terms[n].e := by simp [ixAt_nat hn, hn]
  generalize p.terms[n] = t at ht
  generalize s.2[n] = r at hr
  have lim : ∀ n, n ≤ 10 → n ≤ LIM := fun n h => by unfold LIM; omega
  have l1 := lim 1 (by omega)
  have l2 := lim 2 (by omega)
  have l3 := lim 3 (by omega)
  show outD S.length (exCs O fu S.length b_reasons [some (.d p.e), some (.d (stE s)), some (.d (.int n)), some (.d (.str k)), none, none, none, none, none, none, none, none, none, none, none, none, none, none, none] S) = _
  have hu1 : T.put (.tup [4, 5, 6, 7]) p.e [some (.d p.e), some (.d (stE s)), some (.d (.int n)), some (.d (.str k)), none, none, none, none, none, none, none, none, none, none, none, none, none, none, none] = some [some (.d p.e), some (.d (stE s)), some (.d (.int n)), some (.d (.str k)), some (.d (.int p.price)), some (.d (.tuple (p.lives.map lifeE))), some (.d (.int p.most)), some (.d (.tuple (p.terms.map Tm.e))), none, none, none, none, none, none, none, none, none, none, none] := rfl
  generalize hz : (match b_reasons with | .cons _ (.cons _ (.cons _ (.cons _ (.cons _ (.cons _ (.cons _ (.cons _ z))))))) => z | _ => .nil) = Z
  have hb : b_reasons = .cons (.xpr (.call "check_state" (.cons (.var 0) (.cons (.var 1) .nil)))) (.cons (.xpr (.call "check_term_number" (.cons (.var 0) (.cons (.var 2) .nil)))) (.cons (.xpr (.call "check_kind" (.cons (.var 3) .nil))) (.cons (.unp [4, 5, 6, 7] (.var 0)) (.cons (.unp [8, 9] (.var 1)) (.cons (.unp [10, 11, 12, 13, 14, 15] (.idx (.var 7) (.var 2))) (.cons (.unp [16, 17] (.idx (.var 9) (.var 2))) (.cons (.own 18 .nil) Z))))))) := by rw [← hz]; rfl
  have s_1 : ∀ z : Cs, exCs O fu S.length (.cons (.xpr (.call "check_state" (.cons (.var 0) (.cons (.var 1) .nil)))) (.cons (.xpr (.call "check_term_number" (.cons (.var 0) (.cons (.var 2) .nil)))) (.cons (.xpr (.call "check_kind" (.cons (.var 3) .nil))) (.cons (.unp [4, 5, 6, 7] (.var 0)) (.cons (.unp [8, 9] (.var 1)) (.cons (.unp [10, 11, 12, 13, 14, 15] (.idx (.var 7) (.var 2))) (.cons (.unp [16, 17] (.idx (.var 9) (.var 2))) (.cons (.own 18 .nil) z)))))))) [some (.d p.e), some (.d (stE s)), some (.d (.int n)), some (.d (.str k)), none, none, none, none, none, none, none, none, none, none, none, none, none, none, none] S =
      exCs O fu S.length z [some (.d p.e), some (.d (stE s)), some (.d (.int n)), some (.d (.str k)), some (.d (.int p.price)), some (.d (.tuple (p.lives.map lifeE))), some (.d (.int p.most)), some (.d (.tuple (p.terms.map Tm.e))), some (.d (.int s.1)), some (.d (.tuple (s.2.map rowE))), some (.d (.str t.pay)), some (.d (.int t.days)), some (.d (.str t.kinds)), some (.d (.str t.ren)), some (.d (.int t.cl)), some (.d (.bool t.sale)), some (.d (.int r.1)), some (.d (.int r.2)), some (.r S.length)] (S ++ [.lst []]) := by
    intro z
    have hu2 : ∀ (a b c d : Option Wd), T.put (.tup [8, 9]) (stE s) [some (.d p.e), some (.d (stE s)), some (.d (.int n)), some (.d (.str k)), a, b, c, d, none, none, none, none, none, none, none, none, none, none, none] = some [some (.d p.e), some (.d (stE s)), some (.d (.int n)), some (.d (.str k)), a, b, c, d, some (.d (.int s.1)), some (.d (.tuple (s.2.map rowE))), none, none, none, none, none, none, none, none, none] := fun _ _ _ _ => rfl
    have hu3 : ∀ (a b c d e f : Option Wd), T.put (.tup [10, 11, 12, 13, 14, 15]) t.e [some (.d p.e), some (.d (stE s)), some (.d (.int n)), some (.d (.str k)), a, b, c, d, e, f, none, none, none, none, none, none, none, none, none] = some [some (.d p.e), some (.d (stE s)), some (.d (.int n)), some (.d (.str k)), a, b, c, d, e, f, some (.d (.str t.pay)), some (.d (.int t.days)), some (.d (.str t.kinds)), some (.d (.str t.ren)), some (.d (.int t.cl)), some (.d (.bool t.sale)), none, none, none] := fun _ _ _ _ _ _ => rfl
    have hu4 : ∀ (a b c d e f g h i j k' l : Option Wd), T.put (.tup [16, 17]) (rowE r) [some (.d p.e), some (.d (stE s)), some (.d (.int n)), some (.d (.str k)), a, b, c, d, e, f, g, h, i, j, k', l, none, none, none] = some [some (.d p.e), some (.d (stE s)), some (.d (.int n)), some (.d (.str k)), a, b, c, d, e, f, g, h, i, j, k', l, some (.d (.int r.1)), some (.d (.int r.2)), none] := fun _ _ _ _ _ _ _ _ _ _ _ _ => rfl
    simp [h0, h1, h2, hu1, hu2, hu3, hu4, ht, hr, -idx_t, -idx_l]
  rw [hb, s_1, ← hz]
  have hin : cmpD .nin (.str k) (.str t.kinds) = some (!strIn k t.kinds) := rfl
  have fin : ∀ (env : Env) (xs : List PyData), env[18]? = some (some (.r S.length)) → outD S.length ((ev O S.length (.var 18) env (S ++ [.lst xs])).rs env fun w S => .rt w S) = .fresh xs := fun env xs h => by
    simp [h]
    exact out_r (by simp) (Nat.le_refl _)
  by_cases c1 : r.2 = 0 <;> by_cases c2 : r.1 = 0 <;> by_cases c3 : strIn k t.kinds = true <;> simp [b_reasons, c1, c2, c3, whyL, hin, l1, l2, l3] <;> exact out_r (by simp) (Nat.le_refl _)
theorem r_check_state_no {p : Pt} {d : PyData} (hd : isSt p d = false) (h1 : ∀ d S, O "is_state" [.d p.e, .d d] S = .d (.bool (isSt p d))) : runD O fu d_check_state [.d p.e, .d d] S = .ex "InvalidState" := by
  simp [runD, d_check_state, b_check_state, h1, hd]
theorem r_check_kind_ok {k : Str} (h1 : ∀ S, O "is_kind" [.d (.str k)] S = .d (.bool true)) : runD O fu d_check_kind [.d (.str k)] S = .d .none := by
  simp [runD, d_check_kind, b_check_kind, h1]
end
theorem num_ok {n m : Nat} (h : n < m) : isNum 0 ((m : Int) - 1) (.int n) = true := by simp [isNum]; omega
end Rf
namespace Rf
open PySem
/-! ### the law of refusals: what is compared -/
def mxs : List Int → Int
  | [] => 0
  | a :: r => maxL a r
def leftOf (k : Str) (x : Tm × Row) : Option Int := if can x.1 x.2 k then some x.2.1 else none
def lefts (p : Pt) (s : St) (k : Str) : List Int := (p.terms.zip s.2).filterMap (leftOf k)
theorem lefts_able {p : Pt} {s : St} (hf : Fits p s) (k : Str) : (able p s k).map (fun n => (s.2[n]?.getD (0, 0)).1) = lefts p s k := by
  have key : ∀ (ts : List Tm) (rs pre : List Row), rs.length = ts.length → s.2 = pre ++ rs →
      ((List.zipIdx (ts.zip rs) pre.length).filterMap fun x => if can x.1.1 x.1.2 k then some x.2 else none).map (fun n => (s.2[n]?.getD (0, 0)).1) = (ts.zip rs).filterMap (leftOf k) := by
    intro ts
    induction ts with
    | nil => intro rs pre _ _; simp
    | cons t ts ih =>
      intro rs pre hl he
      cases rs with
      | nil => simp at hl
      | cons r rs =>
        have h1 := ih rs (pre ++ [r]) (by simpa using hl) (by rw [he]; simp)
        rw [List.length_append, List.length_singleton] at h1
        have h2 : s.2[pre.length]? = some r := by rw [he]; simp
        rw [List.zip_cons_cons, List.zipIdx_cons, List.filterMap_cons, List.filterMap_cons, ← h1]
        by_cases hc : can t r k = true
        · simp [leftOf, hc, h2]
        · simp [leftOf, hc]
  exact key p.terms s.2 [] hf rfl
theorem opens_mxs {p : Pt} {s : St} (hf : Fits p s) (k : Str) : opens p s k = mxs (lefts p s k) := by
  unfold opens
  rw [lefts_able hf]
  cases lefts p s k <;> rfl
theorem lefts_pos {p : Pt} {s : St} {k : Str} : ∀ x ∈ lefts p s k, 0 < x := by
  intro x hx
  obtain ⟨y, _, e⟩ := List.mem_filterMap.mp hx
  unfold leftOf at e
  split at e
  · rename_i hc
    cases e
    simp [can] at hc
    exact hc.1.1
  · cases e
theorem can_age (t : Tm) (r : Row) (k : Str) : can t (ageRow r) k = (can t r k && decide (1 < r.1)) := by
  unfold can ageRow
  by_cases h : r.1 - 1 > 0
  · have h1 : 0 < r.1 := by omega
    have h2 : 1 < r.1 := by omega
    simp [h, h1, h2]
  · have h2 : ¬ 1 < r.1 := by omega
    simp [h, h2]
theorem lefts_age {p : Pt} {s : St} (k : Str) : lefts p (endDay p s.1 s.2) k = ((lefts p s k).filter fun x => decide (1 < x)).map (· - 1) := by
  unfold lefts endDay
  simp only
  generalize p.terms = ts
  generalize s.2 = rs
  induction ts generalizing rs with
  | nil => simp
  | cons t ts ih =>
    cases rs with
    | nil => simp
    | cons r rs =>
      rw [List.map_cons, List.zip_cons_cons, List.zip_cons_cons, List.filterMap_cons, List.filterMap_cons, ih rs]
      simp only [leftOf, can_age]
      by_cases hc : can t r k = true
      · by_cases h1 : 1 < r.1
        · have h2 : r.1 - 1 > 0 := by omega
          simp [hc, h1, ageRow, h2]
        · simp [hc, h1]
      · simp [hc]
theorem maxL_mem : ∀ (r : List Int) (a : Int), maxL a r = a ∨ maxL a r ∈ r
  | [], a => .inl rfl
  | b :: r, a => by
    simp only [maxL]
    rcases maxL_mem r (if a < b then b else a) with h | h
    · by_cases q : a < b
      · rw [if_pos q] at h ⊢; exact .inr (by rw [h]; exact List.mem_cons_self ..)
      · rw [if_neg q] at h ⊢; exact .inl h
    · exact .inr (List.mem_cons_of_mem _ h)
theorem maxL_all : ∀ (r : List Int) (a : Int), ∀ x ∈ r, x ≤ maxL a r
  | [], a, x, h => by cases h
  | b :: r, a, x, h => by
    simp only [maxL]
    rcases List.mem_cons.mp h with rfl | h
    · refine Int.le_trans ?_ (maxL_ge r _)
      split <;> omega
    · exact maxL_all r _ x h
theorem mxs_mem {l : List Int} (h : l ≠ []) : mxs l ∈ l ∧ ∀ x ∈ l, x ≤ mxs l := by
  cases l with
  | nil => exact absurd rfl h
  | cons a r =>
    refine ⟨?_, fun x hx => ?_⟩
    · rcases maxL_mem r a with e | e
      · show maxL a r ∈ _; rw [e]; exact List.mem_cons_self ..
      · exact List.mem_cons_of_mem _ e
    · rcases List.mem_cons.mp hx with rfl | hx
      · exact maxL_ge r _
      · exact maxL_all r a x hx
theorem mxs_step {l : List Int} (h : l ≠ []) (hp : ∀ x ∈ l, 0 < x) : mxs l = mxs ((l.filter fun x => decide (1 < x)).map (· - 1)) + 1 := by
  obtain ⟨m1, m2⟩ := mxs_mem h
  by_cases hq : (l.filter fun x => decide (1 < x)).map (· - 1) = []
  · rw [hq]
    have h0 := hp _ m1
    have : ¬ 1 < mxs l := fun z => by
      have hm : mxs l - 1 ∈ (l.filter fun x => decide (1 < x)).map (· - 1) := List.mem_map.mpr ⟨_, List.mem_filter.mpr ⟨m1, by simpa using z⟩, rfl⟩
      rw [hq] at hm; cases hm
    show mxs l = 0 + 1
    omega
  · obtain ⟨n1, n2⟩ := mxs_mem hq
    obtain ⟨y, hy, e⟩ := List.mem_map.mp n1
    obtain ⟨hy1, hy2⟩ := List.mem_filter.mp hy
    have hy2 : 1 < y := by simpa using hy2
    have a1 := m2 y hy1
    have a2 : mxs l - 1 ≤ mxs ((l.filter fun x => decide (1 < x)).map (· - 1)) := n2 _ (List.mem_map.mpr ⟨_, List.mem_filter.mpr ⟨m1, by simp; omega⟩, rfl⟩)
    omega
theorem fits_end {p : Pt} {s : St} (hf : Fits p s) : Fits p (endDay p s.1 s.2) := by
  unfold Fits endDay at *
  simpa using hf
theorem opens_step {p : Pt} {s : St} (hf : Fits p s) {k : Str} (h : able p s k ≠ []) : opens p s k = opens p (endDay p s.1 s.2) k + 1 := by
  rw [opens_mxs hf, opens_mxs (fits_end hf), lefts_age]
  refine mxs_step (fun z => h ?_) lefts_pos
  rw [← lefts_able hf] at z
  exact List.map_eq_nil_iff.mp z
theorem opens_nil {p : Pt} {s : St} {k : Str} (h : able p s k = []) : opens p s k = 0 := by
  unfold opens; rw [h]; rfl
theorem opens_nn {p : Pt} {s : St} (hf : Fits p s) (k : Str) : 0 ≤ opens p s k := by
  rw [opens_mxs hf]
  by_cases h : lefts p s k = []
  · rw [h]; exact Int.le_refl _
  · have := lefts_pos _ (mxs_mem h).1
    omega
theorem opens_le {p : Pt} (hp : VPt p) {s : St} (so : StOk p s) (k : Str) : opens p s k ≤ 6 := by
  rw [opens_mxs so.fits]
  by_cases h : lefts p s k = []
  · rw [h]; decide
  · have hm := (mxs_mem h).1
    rw [← lefts_able so.fits] at hm
    obtain ⟨n, hn, e⟩ := List.mem_map.mp hm
    obtain ⟨t, r, e1, e2, _⟩ := able_at hn
    rw [lefts_able so.fits] at e
    rw [← e, e2]
    have h1 := (so.rows n t r e1 e2).1.2
    have h2 := (hp.tv t (List.mem_of_getElem? e1)).days.2
    show r.1 ≤ 6
    omega
theorem stOk_end {p : Pt} (po : PtOk p) {s : St} (so : StOk p s) : StOk p (endDay p s.1 s.2) := stOk_endDay po so.age.1 so.fits so.rows
theorem why_nil {t : Tm} {r : Row} {k : Str} (hr : 0 ≤ r.1) : whyL t r k = [] ↔ can t r k = true := by
  unfold whyL can
  by_cases c1 : r.2 = 0 <;> by_cases c2 : r.1 = 0 <;> by_cases c3 : strIn k t.kinds = true <;> simp [c1, c2, c3] <;> omega
theorem able_mem {p : Pt} {s : St} {k : Str} {n : Nat} {t : Tm} {r : Row} (e1 : p.terms[n]? = some t) (e2 : s.2[n]? = some r) : n ∈ able p s k ↔ can t r k = true := by
  constructor
  · intro h
    obtain ⟨t', r', h1, h2, hc⟩ := able_at h
    rw [e1] at h1; rw [e2] at h2
    cases h1; cases h2
    exact hc
  · intro hc
    refine List.mem_filterMap.mpr ⟨((t, r), n), ?_, by simp [hc]⟩
    have hz : (p.terms.zip s.2)[n]? = some (t, r) := by
      rw [List.getElem?_zip_eq_some]; exact ⟨e1, e2⟩
    exact List.mk_mem_zipIdx_iff_getElem?.mpr hz
theorem isin_nats (n : Nat) (ns : List Nat) : cmpD .isin (.int n) (.list (ns.map fun n => .int (n : Nat))) = some (decide (n ∈ ns)) := by
  have h1 : okD (.list (ns.map fun n => PyData.int (n : Nat))) = true := (okD_map (fun n : Nat => PyData.int n) ns 0 (by decide) fun k hk => ⟨rfl, Nat.le_refl _⟩).1
  show (if (okD (.int n) && okD (.list (ns.map fun n => PyData.int (n : Nat)))) = true then some ((ns.map fun n => PyData.int (n : Nat)).any fun z => PyData.eqv z (.int n)) else none) = _
  rw [h1]
  have h2 : okD (.int n) = true := rfl
  rw [h2]
  simp only [Bool.and_self, if_true, Option.some.injEq]
  induction ns with
  | nil => rfl
  | cons m r ih =>
    have ih := ih (okD_map (fun n : Nat => PyData.int n) r 0 (by decide) fun k hk => ⟨rfl, Nat.le_refl _⟩).1
    rw [List.map_cons, List.any_cons, ih]
    have : PyData.eqv (.int (m : Nat)) (.int (n : Nat)) = decide (m = n) := by
      show ((m : Int) == (n : Int)) = _
      by_cases h : m = n
      · subst h; simp
      · have : ¬ (m : Int) = n := by omega
        simp [h, this]
    rw [this]
    by_cases h : m = n
    · subst h; simp
    · have h' : ¬ n = m := fun z => h z.symm
      simp [h, h']
end Rf
namespace Rf
open PySem
/-! ### the law's loops -/
structure H64 (O : Orc) (p : Pt) : Prop where
  asked : ∀ s, Fits p s → ∀ k S, O "_law_asked" [.d (Pt.e p), .d (stE s), .d (.str k)] S = .d (.list ((able p s k).map fun n => .int (n : Nat)))
  after : ∀ s, Fits p s → ∀ S, O "_law_after" [.d (Pt.e p), .d (stE s), .d (.str noS), .d .none] S = .d (stE (endDay p s.1 s.2))
  unc : ∀ s, StOk p s → ∀ S, O "uncovered" [.d (Pt.e p), .d (stE s)] S = .d (.list ((uncK p s).map .str))
  cls : ∀ s, StOk p s → ∀ S, O "closing" [.d (Pt.e p), .d (stE s)] S = .d (.list ((clsK p s).map .str))
  opn : ∀ s, StOk p s → ∀ k ∈ KIND3, ∀ S, O "days_open" [.d (Pt.e p), .d (stE s), .d (.str k)] S = .d (.int (opens p s k))
  rea : ∀ s, StOk p s → ∀ n (t : Tm) (r : Row), p.terms[n]? = some t → s.2[n]? = some r → ∀ k ∈ KIND3, ∀ S, O "reasons" [.d (Pt.e p), .d (stE s), .d (.int (n : Nat)), .d (.str k)] S = .fresh ((whyL t r k).map .str)
  ask : ∀ s, StOk p s → ∀ k ∈ KIND3, ∀ S, O "asked" [.d (Pt.e p), .d (stE s), .d (.str k)] S = .d (.list ((able p s k).map fun n => .int (n : Nat)))
def l64a : Cs := match b_law_k64 with
  | .cons _ (.cons (.loop _ _ b) _) => b
  | _ => .nil
def l64k : Cs := match l64a with
  | .cons _ (.cons _ (.cons _ (.cons _ (.cons _ (.cons (.loop _ _ b) _))))) => b
  | _ => .nil
def l64w : Cs := match l64k with
  | .cons _ (.cons (.whl _ b) _) => b
  | _ => .nil
def l64t : Cs := match l64k with
  | .cons _ (.cons _ (.cons _ (.cons (.loop _ _ b) _))) => b
  | _ => .nil
def kinds (p : Pt) : List Str := p.lives.map (·.1)
theorem kinds_ok {p : Pt} (hp : VPt p) : ∀ k ∈ kinds p, okD (.str k) = true := by
  intro k hk
  obtain ⟨l, hl, rfl⟩ := List.mem_map.mp hk
  exact hp.ok.small.kinds l hl
theorem covK_eq (p : Pt) (s : St) : covK p s = (kinds p).filter fun k => !(able p s k).isEmpty := by
  unfold covK kinds
  rw [List.filter_map]; rfl
theorem uncK_eq (p : Pt) (s : St) : uncK p s = (kinds p).filter fun k => !decide (k ∈ covK p s) := by
  have h1 : uncK p s = (kinds p).filter fun k => (able p s k).isEmpty := by
    unfold uncK kinds
    rw [List.filter_map]; rfl
  rw [h1]
  refine List.filter_congr fun k hk => ?_
  rw [covK_eq]
  by_cases h : (able p s k).isEmpty = true
  · simp [List.mem_filter, h]
  · simp [List.mem_filter, h, hk]
theorem clsK_eq (p : Pt) (s : St) : clsK p s = (covK p s).filter fun k => (able p (endDay p s.1 s.2) k).isEmpty := by
  unfold clsK
  refine List.filter_congr fun k hk => ?_
  rw [covK_eq] at hk ⊢
  have hk := (List.mem_filter.mp hk).1
  by_cases h : (able p (endDay p s.1 s.2) k).isEmpty = true
  · simp [List.mem_filter, h]
  · simp [List.mem_filter, h, hk]
theorem str_map_eq (ks : List Str) : ∀ f : Str → Bool, (ks.map PyData.str).filterMap (fun x => match x with | .str k => if f k = true then some (PyData.str k) else none | _ => none) = (ks.filter f).map .str := by
  intro f
  induction ks with
  | nil => rfl
  | cons k r ih =>
    rw [List.map_cons, List.filterMap_cons, List.filter_cons, ih]
    by_cases h : f k = true <;> simp [h]
theorem eq_natsB (ns : List Nat) : cmpD .eq (.list (ns.map fun n => .int (n : Nat))) (.list []) = some ns.isEmpty := by
  have := ne_nats ns
  have h1 : okD (.list (ns.map fun n => PyData.int (n : Nat))) = true := (okD_map (fun n : Nat => PyData.int n) ns 0 (by decide) fun k hk => ⟨rfl, Nat.le_refl _⟩).1
  show (if (okD (.list (ns.map fun n => PyData.int (n : Nat))) && okD (.list [])) = true then some (PyData.eqv (.list (ns.map fun n => PyData.int (n : Nat))) (.list [])) else none) = _
  rw [h1]
  cases ns <;> rfl
theorem covK_okk {p : Pt} (hp : VPt p) (s : St) : ∀ k ∈ covK p s, okD (.str k) = true := covK_ok hp.ok.small
section
variable {O : Orc} {fu lo : Nat} {S : Sto}
/-- the terms, one by one -/
theorem l64t_one {p : Pt} (hp : VPt p) (A : H64 O p) {s : St} (so : StOk p s) {k : Str} (hk : k ∈ KIND3) {n : Nat} {t : Tm} (et : p.terms[n]? = some t) (v0 v2 v4 v5 v6 v7 v9 v10 v11 v12 v13 v14 v15 v16 v17 v18 v19 : Option Wd) :
    ∃ w13 w14 w15, loopF O fu lo (.tup [11, 12]) l64t (.tuple [.int n, t.e]) [v0, some (.d p.e), v2, some (.d (stE s)), v4, v5, v6, v7, some (.d (.str k)), v9, v10, v11, v12, v13, v14, v15, v16, v17, v18, v19] S =
      .nx [v0, some (.d p.e), v2, some (.d (stE s)), v4, v5, v6, v7, some (.d (.str k)), v9, v10, some (.d (.int n)), some (.d t.e), w13, w14, w15, v16, v17, v18, v19] S := by
  have hlt : n < s.2.length := by
    have := so.fits
    unfold Fits at this
    rcases Nat.lt_or_ge n p.terms.length with z | z
    · omega
    · rw [List.getElem?_eq_none z] at et; cases et
  have er : s.2[n]? = some s.2[n] := List.getElem?_eq_getElem hlt
  have hr := row_at hlt
  have hrow := so.rows n t _ et er
  have e1 := fun S => A.rea s so n t _ et er k hk S
  have e2 := fun S => A.ask s so k hk S
  have hin := isin_nats n (able p s k)
  have hmem : decide (n ∈ able p s k) = can t s.2[n] k := by
    by_cases h : can t s.2[n] k = true
    · rw [h]; exact decide_eq_true ((able_mem et er).mpr h)
    · have h' : can t s.2[n] k = false := by simpa using h
      rw [h']; exact decide_eq_false fun z => h ((able_mem et er).mp z)
  rw [hmem] at hin
  generalize s.2[n] = r at *
  refine ⟨some (.d (.int r.1)), some (.d (.int r.2)), some (.d (.list ((whyL t r k).map .str))), ?_⟩
  have hu : ∀ (a b : Option Wd), T.put (.tup [13, 14]) (rowE r) [v0, some (.d p.e), v2, some (.d (stE s)), v4, v5, v6, v7, some (.d (.str k)), v9, v10, a, b, v13, v14, v15, v16, v17, v18, v19] = some [v0, some (.d p.e), v2, some (.d (stE s)), v4, v5, v6, v7, some (.d (.str k)), v9, v10, a, b, some (.d (.int r.1)), some (.d (.int r.2)), v15, v16, v17, v18, v19] := fun _ _ => rfl
  have lim : ∀ n, n ≤ 10 → n ≤ LIM := fun n h => by unfold LIM; omega
  have l0 := lim 0 (by omega)
  have l1 := lim 1 (by omega)
  have l2 := lim 2 (by omega)
  have l3 := lim 3 (by omega)
  have okw : okD (.list ((whyL t r k).map .str)) = true := okD_strs fun x hx => by
    unfold whyL at hx
    have hx : x = Str.ofString "claims" ∨ x = Str.ofString "days" ∨ x = Str.ofString "kind" := by
      rcases List.mem_append.mp hx with h | h
      · split at h
        · exact .inl (by simpa using h)
        · cases h
      · rcases List.mem_append.mp h with h | h
        · split at h
          · exact .inr (.inl (by simpa using h))
          · cases h
        · split at h
          · cases h
          · exact .inr (.inr (by simpa using h))
    rcases hx with rfl | rfl | rfl <;> decide +kernel
  have hne := ne_same okw
  have hq : cmpD .eq (.list ((whyL t r k).map .str)) (.list []) = some (whyL t r k).isEmpty := by
    show (if (okD (.list ((whyL t r k).map .str)) && okD (.list [])) = true then some (PyData.eqv (.list ((whyL t r k).map .str)) (.list [])) else none) = _
    rw [okw]
    cases whyL t r k <;> rfl
  have hw : (whyL t r k).isEmpty = can t r k := by
    have := why_nil (t := t) (k := k) hrow.1.1
    by_cases h : can t r k = true
    · rw [h, this.mpr h]; rfl
    · have h' : can t r k = false := by simpa using h
      rw [h']
      cases hq : whyL t r k with
      | nil => exact absurd (this.mp hq) h
      | cons _ _ => rfl
  rw [hw] at hq
  have hbb : cmpD .ne (.bool (can t r k)) (.bool (can t r k)) = some false := ne_same rfl
  have hv : ∃ a b, (if r.2 = 0 then [PyData.str (Str.ofString "claims")] else []) = a ∧ (if r.1 = 0 then [PyData.str (Str.ofString "days")] else []) = b ∧ (whyL t r k).map PyData.str = a ++ (b ++ (if strIn k t.kinds = true then [] else [.str (Str.ofString "kind")])) := by
    refine ⟨_, _, rfl, rfl, ?_⟩
    unfold whyL
    by_cases c1 : r.2 = 0 <;> by_cases c2 : r.1 = 0 <;> by_cases c3 : strIn k t.kinds = true <;> simp [c1, c2, c3]
  have s_a : exC O fu lo (.set 15 (.bin .add (.ite (.cmp .eq (.var 14) (.con (.int 0))) (.lst (.cons (.con (.str (Str.ofString "claims"))) .nil)) (.lst .nil)) (.ite (.cmp .eq (.var 13) (.con (.int 0))) (.lst (.cons (.con (.str (Str.ofString "days"))) .nil)) (.lst .nil))))
      [v0, some (.d p.e), v2, some (.d (stE s)), v4, v5, v6, v7, some (.d (.str k)), v9, v10, some (.d (.int n)), some (.d t.e), some (.d (.int r.1)), some (.d (.int r.2)), v15, v16, v17, v18, v19] S =
      .nx [v0, some (.d p.e), v2, some (.d (stE s)), v4, v5, v6, v7, some (.d (.str k)), v9, v10, some (.d (.int n)), some (.d t.e), some (.d (.int r.1)), some (.d (.int r.2)), some (.d (.list ((if r.2 = 0 then [PyData.str (Str.ofString "claims")] else []) ++ (if r.1 = 0 then [PyData.str (Str.ofString "days")] else [])))), v16, v17, v18, v19] S := by
    by_cases c1 : r.2 = 0 <;> by_cases c2 : r.1 = 0 <;> simp [c1, c2, binD, l0, l1, l2]
  have s_b : exC O fu lo (.set 15 (.bin .add (.var 15) (.ite (.cmp .isin (.var 8) (.idx (.var 12) (.con (.int 2)))) (.lst .nil) (.lst (.cons (.con (.str (Str.ofString "kind"))) .nil)))))
      [v0, some (.d p.e), v2, some (.d (stE s)), v4, v5, v6, v7, some (.d (.str k)), v9, v10, some (.d (.int n)), some (.d t.e), some (.d (.int r.1)), some (.d (.int r.2)), some (.d (.list ((if r.2 = 0 then [PyData.str (Str.ofString "claims")] else []) ++ (if r.1 = 0 then [PyData.str (Str.ofString "days")] else [])))), v16, v17, v18, v19] S =
      .nx [v0, some (.d p.e), v2, some (.d (stE s)), v4, v5, v6, v7, some (.d (.str k)), v9, v10, some (.d (.int n)), some (.d t.e), some (.d (.int r.1)), some (.d (.int r.2)), some (.d (.list ((whyL t r k).map .str))), v16, v17, v18, v19] S := by
    unfold whyL
    by_cases c1 : r.2 = 0 <;> by_cases c2 : r.1 = 0 <;> by_cases c3 : strIn k t.kinds = true <;> simp [c1, c2, c3, binD, l0, l1, l2, l3, -idx_t, -idx_l, t2]
  have hb : l64t = .cons (.unp [13, 14] (.idx (.idx (.var 3) (.con (.int 1))) (.var 11))) (.cons (.set 15 (.bin .add (.ite (.cmp .eq (.var 14) (.con (.int 0))) (.lst (.cons (.con (.str (Str.ofString "claims"))) .nil)) (.lst .nil)) (.ite (.cmp .eq (.var 13) (.con (.int 0))) (.lst (.cons (.con (.str (Str.ofString "days"))) .nil)) (.lst .nil))))
    (.cons (.set 15 (.bin .add (.var 15) (.ite (.cmp .isin (.var 8) (.idx (.var 12) (.con (.int 2)))) (.lst .nil) (.lst (.cons (.con (.str (Str.ofString "kind"))) .nil))))) (match l64t with | .cons _ (.cons _ (.cons _ z)) => z | _ => .nil))) := rfl
  have s_0 : exC O fu lo (.unp [13, 14] (.idx (.idx (.var 3) (.con (.int 1))) (.var 11))) [v0, some (.d p.e), v2, some (.d (stE s)), v4, v5, v6, v7, some (.d (.str k)), v9, v10, some (.d (.int n)), some (.d t.e), v13, v14, v15, v16, v17, v18, v19] S =
      .nx [v0, some (.d p.e), v2, some (.d (stE s)), v4, v5, v6, v7, some (.d (.str k)), v9, v10, some (.d (.int n)), some (.d t.e), some (.d (.int r.1)), some (.d (.int r.2)), v15, v16, v17, v18, v19] S := by
    simp [-idx_t, -idx_l, s1, hr, hu]
  show optRs (T.put (.tup [11, 12]) (.tuple [.int n, t.e]) _) (fun env => exCs O fu lo l64t env S) = _
  have hput : T.put (.tup [11, 12]) (.tuple [.int n, t.e]) [v0, some (.d p.e), v2, some (.d (stE s)), v4, v5, v6, v7, some (.d (.str k)), v9, v10, v11, v12, v13, v14, v15, v16, v17, v18, v19] = some [v0, some (.d p.e), v2, some (.d (stE s)), v4, v5, v6, v7, some (.d (.str k)), v9, v10, some (.d (.int n)), some (.d t.e), v13, v14, v15, v16, v17, v18, v19] := rfl
  rw [hput, optRs_some, hb, exCs_cons, s_0, then_nx, exCs_cons, s_a, then_nx, exCs_cons, s_b, then_nx]
  generalize (whyL t r k).map PyData.str = W at *
  simp [l64t, l64k, l64a, b_law_k64, e1, e2, hne, hq, hin, hbb]
theorem l64t_loop {p : Pt} (hp : VPt p) (A : H64 O p) {s : St} (so : StOk p s) {k : Str} (hk : k ∈ KIND3) (v0 v2 v4 v5 v6 v7 v9 v10 v11 v12 v13 v14 v15 v16 v17 v18 v19 : Option Wd) :
    ∃ w11 w12 w13 w14 w15, forGo (loopF O fu lo (.tup [11, 12]) l64t) (enumL 0 (p.terms.map Tm.e)) [v0, some (.d p.e), v2, some (.d (stE s)), v4, v5, v6, v7, some (.d (.str k)), v9, v10, v11, v12, v13, v14, v15, v16, v17, v18, v19] S =
      .nx [v0, some (.d p.e), v2, some (.d (stE s)), v4, v5, v6, v7, some (.d (.str k)), v9, v10, w11, w12, w13, w14, w15, v16, v17, v18, v19] S := by
  obtain ⟨env', S', q, hS, w11, w12, w13, w14, w15, he⟩ := forGo_pre (enc := fun x : Tm × Nat => .tuple [.int x.2, x.1.e]) (step := loopF O fu lo (.tup [11, 12]) l64t)
    (fun _ env S1 => S1 = S ∧ ∃ w11 w12 w13 w14 w15, env = [v0, some (.d p.e), v2, some (.d (stE s)), v4, v5, v6, v7, some (.d (.str k)), v9, v10, w11, w12, w13, w14, w15, v16, v17, v18, v19])
    (List.zipIdx p.terms) [v0, some (.d p.e), v2, some (.d (stE s)), v4, v5, v6, v7, some (.d (.str k)), v9, v10, v11, v12, v13, v14, v15, v16, v17, v18, v19] S ⟨rfl, _, _, _, _, _, rfl⟩ (by
      rintro pre x post env S1 hx ⟨rfl, w11, w12, w13, w14, w15, rfl⟩
      have hm : x ∈ List.zipIdx p.terms := by rw [hx]; simp
      have et : p.terms[x.2]? = some x.1 := List.mk_mem_zipIdx_iff_getElem?.mp hm
      obtain ⟨y13, y14, y15, q⟩ := l64t_one (fu := fu) (lo := lo) (S := S1) hp A so hk et v0 v2 v4 v5 v6 v7 v9 v10 w11 w12 w13 w14 w15 v16 v17 v18 v19
      exact ⟨_, S1, q, rfl, _, _, _, _, _, rfl⟩)
  subst hS he
  rw [enumL_map]
  exact ⟨w11, w12, w13, w14, w15, q⟩
theorem l64w_run {p : Pt} (A : H64 O p) {k : Str} (v0 v2 v3 v4 v5 v6 v7 v11 v12 v13 v14 v15 v16 v17 v18 v19 : Option Wd) : ∀ (m : Nat) (s : St) (c : Int), Fits p s → opens p s k = m → ∀ n, m < n → ∃ s',
    whGo (fun env S => (ev O lo (.cmp .ne (.call "_law_asked" (.cons (.var 1) (.cons (.var 9) (.cons (.var 8) .nil)))) (.lst .nil)) env S).bind fun w S1 => (Rf.orNo (asB w) S1)) (fun env S => exCs O fu lo l64w env S) n
      [v0, some (.d p.e), v2, v3, v4, v5, v6, v7, some (.d (.str k)), some (.d (stE s)), some (.d (.int c)), v11, v12, v13, v14, v15, v16, v17, v18, v19] S =
      .nx [v0, some (.d p.e), v2, v3, v4, v5, v6, v7, some (.d (.str k)), some (.d (stE s')), some (.d (.int (c + m))), v11, v12, v13, v14, v15, v16, v17, v18, v19] S := by
  intro m
  induction m with
  | zero =>
    intro s c hf ho n hn
    obtain ⟨n, rfl⟩ : ∃ f, n = f + 1 := ⟨n - 1, by omega⟩
    have hn : able p s k = [] := by
      cases h : able p s k with
      | nil => rfl
      | cons a r =>
        have h1 := opens_step hf (k := k) (by rw [h]; simp)
        have h2 := opens_nn (fits_end hf) k
        simp at ho
        omega
    have e1 := fun S => A.asked s hf k S
    have h1 := ne_nats (able p s k)
    rw [hn] at h1 e1
    refine ⟨s, ?_⟩
    simp only [List.map_nil, List.isEmpty_nil, Bool.not_true] at h1 e1
    simp [whGo, e1, h1]
  | succ m ih =>
    intro s c hf ho n hn
    obtain ⟨n, rfl⟩ : ∃ f, n = f + 1 := ⟨n - 1, by omega⟩
    have hne : able p s k ≠ [] := fun z => by
      rw [opens_nil z] at ho
      push_cast at ho
      omega
    have h0 := opens_step hf hne
    obtain ⟨s', q⟩ := ih (endDay p s.1 s.2) (c + 1) (fits_end hf) (by push_cast at ho; omega) n (by omega)
    have e1 := fun S => A.asked s hf k S
    have e2 := fun S => A.after s hf S
    have h1 := ne_nats (able p s k)
    have h2 : (able p s k).isEmpty = false := by cases h : able p s k with
      | nil => exact absurd h hne
      | cons _ _ => rfl
    rw [h2] at h1
    generalize (able p s k).map (fun n => PyData.int (n : Nat)) = L at *
    refine ⟨s', ?_⟩
    have h3 : c + ((m + 1 : Nat) : Int) = c + 1 + (m : Nat) := by push_cast; omega
    rw [h3, ← q]
    simp only [Bool.not_false] at h1
    simp [whGo, e1, h1, l64w, l64k, l64a, b_law_k64, e2]
/-- a kind -/
theorem l64k_one {p : Pt} (hp : VPt p) (A : H64 O p) (hfu : 10 < fu) {s : St} (so : StOk p s) {k : Str} (hk : k ∈ KIND3) (v0 v2 v4 v5 v6 v7 v8 v9 v10 v11 v12 v13 v14 v15 v16 v17 v18 v19 : Option Wd) :
    ∃ w9 w10 w11 w12 w13 w14 w15, loopF O fu lo (.v 8) l64k (.str k) [v0, some (.d p.e), v2, some (.d (stE s)), v4, v5, v6, v7, v8, v9, v10, v11, v12, v13, v14, v15, v16, v17, v18, v19] S =
      .nx [v0, some (.d p.e), v2, some (.d (stE s)), v4, v5, v6, v7, some (.d (.str k)), w9, w10, w11, w12, w13, w14, w15, v16, v17, v18, v19] S := by
  have hn := opens_nn so.fits k
  have hle := opens_le hp so k
  obtain ⟨m, hm⟩ : ∃ m : Nat, opens p s k = m := ⟨(opens p s k).toNat, by omega⟩
  obtain ⟨s', q⟩ := l64w_run (O := O) (fu := fu) (lo := lo) (S := S) A v0 v2 (some (.d (stE s))) v4 v5 v6 v7 v11 v12 v13 v14 v15 v16 v17 v18 v19 m s 0 so.fits hm fu (by omega)
  obtain ⟨w11, w12, w13, w14, w15, q2⟩ := l64t_loop (fu := fu) (lo := lo) (S := S) hp A so hk v0 v2 v4 v5 v6 v7 (some (.d (stE s'))) (some (.d (.int (0 + (m : Int))))) v11 v12 v13 v14 v15 v16 v17 v18 v19
  refine ⟨some (.d (stE s')), some (.d (.int (0 + (m : Int)))), w11, w12, w13, w14, w15, ?_⟩
  have e1 := fun S => A.opn s so k hk S
  rw [hm] at e1
  have hb : l64k = .cons (.par 9 10 (.var 3) (.con (.int 0))) (.cons (.whl (.cmp .ne (.call "_law_asked" (.cons (.var 1) (.cons (.var 9) (.cons (.var 8) .nil)))) (.lst .nil)) l64w) (.cons (.ife (.cmp .ne (.call "days_open" (.cons (.var 1) (.cons (.var 3) (.cons (.var 8) .nil)))) (.var 10)) (.cons (.ret (.con (.bool false))) .nil) .nil)
    (.cons (.loop (.tup [11, 12]) (.enum (.cons (.idx (.var 1) (.con (.int 3))) .nil)) l64t) .nil))) := rfl
  have s_1 : exC O fu lo (.par 9 10 (.var 3) (.con (.int 0))) [v0, some (.d p.e), v2, some (.d (stE s)), v4, v5, v6, v7, some (.d (.str k)), v9, v10, v11, v12, v13, v14, v15, v16, v17, v18, v19] S = .nx [v0, some (.d p.e), v2, some (.d (stE s)), v4, v5, v6, v7, some (.d (.str k)), some (.d (stE s)), some (.d (.int 0)), v11, v12, v13, v14, v15, v16, v17, v18, v19] S := by simp
  have s_2 : exC O fu lo (.whl (.cmp .ne (.call "_law_asked" (.cons (.var 1) (.cons (.var 9) (.cons (.var 8) .nil)))) (.lst .nil)) l64w) [v0, some (.d p.e), v2, some (.d (stE s)), v4, v5, v6, v7, some (.d (.str k)), some (.d (stE s)), some (.d (.int 0)), v11, v12, v13, v14, v15, v16, v17, v18, v19] S =
      .nx [v0, some (.d p.e), v2, some (.d (stE s)), v4, v5, v6, v7, some (.d (.str k)), some (.d (stE s')), some (.d (.int (0 + (m : Int)))), v11, v12, v13, v14, v15, v16, v17, v18, v19] S := by
    rw [← q]
    simp only [exC]
  have s_3 : exC O fu lo (.ife (.cmp .ne (.call "days_open" (.cons (.var 1) (.cons (.var 3) (.cons (.var 8) .nil)))) (.var 10)) (.cons (.ret (.con (.bool false))) .nil) .nil) [v0, some (.d p.e), v2, some (.d (stE s)), v4, v5, v6, v7, some (.d (.str k)), some (.d (stE s')), some (.d (.int (0 + (m : Int)))), v11, v12, v13, v14, v15, v16, v17, v18, v19] S =
      .nx [v0, some (.d p.e), v2, some (.d (stE s)), v4, v5, v6, v7, some (.d (.str k)), some (.d (stE s')), some (.d (.int (0 + (m : Int)))), v11, v12, v13, v14, v15, v16, v17, v18, v19] S := by
    have e0 : (0 : Int) + (m : Int) = m := Int.zero_add _
    rw [e0]
    simp [e1]
  have s_4 : exC O fu lo (.loop (.tup [11, 12]) (.enum (.cons (.idx (.var 1) (.con (.int 3))) .nil)) l64t) [v0, some (.d p.e), v2, some (.d (stE s)), v4, v5, v6, v7, some (.d (.str k)), some (.d (stE s')), some (.d (.int (0 + (m : Int)))), v11, v12, v13, v14, v15, v16, v17, v18, v19] S =
      .nx [v0, some (.d p.e), v2, some (.d (stE s)), v4, v5, v6, v7, some (.d (.str k)), some (.d (stE s')), some (.d (.int (0 + (m : Int)))), w11, w12, w13, w14, w15, v16, v17, v18, v19] S := by
    generalize (some (Wd.d (.int (0 + (m : Int))))) = V10 at *
    rw [exC_loop]
    generalize loopF O fu lo (.tup [11, 12]) l64t = st at *
    simp [-idx_t, -idx_l, e3, q2]
  show exCs O fu lo l64k [v0, some (.d p.e), v2, some (.d (stE s)), v4, v5, v6, v7, some (.d (.str k)), v9, v10, v11, v12, v13, v14, v15, v16, v17, v18, v19] S = _
  rw [hb, exCs_cons, s_1, then_nx, exCs_cons, s_2, then_nx, exCs_cons, s_3, then_nx, exCs_cons, s_4, then_nx, exCs_nil]
end
end Rf
namespace Rf
open PySem
/-! ### the refusals: what is no part, no state, no number, no kind -/
def sv (x : String) : PyData := .str (Str.ofString x)
def live1 : PyData := .tuple [.tuple [sv "a", .int 1]]
def term1 : List PyData := [sv "maker", .int 2, sv "a", sv "rest", .int 0, .bool false]
def partB (a b c d : PyData) : PyData := .tuple [a, b, c, d]
def BADS : List PyData := [.none, .tuple [], .tuple [.int 5, live1, .int 0], partB (.int 0) live1 (.int 0) (.tuple []), partB (.int 21) live1 (.int 0) (.tuple []), partB (.bool true) live1 (.int 0) (.tuple []),
  partB (.int 5) (.tuple []) (.int 0) (.tuple []), partB (.int 5) (.list [.tuple [sv "a", .int 1]]) (.int 0) (.tuple []), partB (.int 5) (.tuple [.tuple [sv "d", .int 1]]) (.int 0) (.tuple []), partB (.int 5) (.tuple [.tuple [sv "a", .int 7]]) (.int 0) (.tuple []),
  partB (.int 5) (.tuple [.tuple [sv "b", .int 1], .tuple [sv "a", .int 1]]) (.int 0) (.tuple []), partB (.int 5) (.tuple [.tuple [sv "a", .int 2]]) (.int 1) (.tuple []), partB (.int 5) live1 (.int 9) (.tuple []),
  partB (.int 5) live1 (.int 0) (.tuple [.tuple term1, .tuple term1]), partB (.int 5) live1 (.int 0) (.list [.tuple term1]), partB (.int 5) live1 (.int 0) (.tuple [.tuple [sv "maker", .int 2, sv "a", sv "rest", .int 0]]),
  partB (.int 5) live1 (.int 0) (.tuple [.tuple [sv "maker", .int 0, sv "a", sv "rest", .int 0, .bool false]]), partB (.int 5) live1 (.int 0) (.tuple [.tuple [sv "Maker", .int 2, sv "a", sv "rest", .int 0, .bool false]])]
def bpHead : Cs → Cs
  | .cons a (.cons b (.cons c (.cons d (.cons e (.cons f (.cons g (.cons h (.cons i _)))))))) => .cons a (.cons b (.cons c (.cons d (.cons e (.cons f (.cons g (.cons h (.cons i .nil))))))))
  | _ => .nil
theorem idx_lst (L : List PyData) {n : Nat} (h : n < L.length) : idxD (.list L) (.int (n : Nat)) = some L[n] := by
  rw [idx_l, ixAt_nat h]
  simp [h]
def rowsB (p : Pt) : List PyData := p.terms.map fun t => rowE (0, if 0 < t.cl then 0 else -1)
def BADST (p : Pt) : List PyData := [.none, .tuple [], .tuple [.int 0], .tuple [.int (-1), .tuple (rowsB p)], .tuple [.int 9, .tuple (rowsB p)], .tuple [.int 0, .tuple (rowsB p ++ [.tuple [.int 0, .int 0]])], .tuple [.bool true, .tuple (rowsB p)], .list [.int 0, .tuple (rowsB p)],
  .tuple [.int 0, .list (rowsB p)], .tuple [sv "0", .tuple (rowsB p)]]
def BADNO (p : Pt) : List PyData := [.none, .int (-1), .int p.terms.length, .bool true, sv "0"]
def BADKD : List PyData := [.none, sv "", sv "d", sv "ab", .int 1]
theorem maxL_le : ∀ (r : List Int) (a : Int), a ≤ 6 → (∀ x ∈ r, x ≤ 6) → maxL a r ≤ 6
  | [], a, h, _ => h
  | b :: r, a, h, hr => by
    simp only [maxL]
    refine maxL_le r _ ?_ fun x hx => hr x (List.mem_cons_of_mem _ hx)
    have := hr b (List.mem_cons_self ..)
    split <;> omega
theorem gage_le {p : Pt} (hp : VPt p) : gage p ≤ 8 := by
  unfold gage
  split
  · rcases hp.most with h | h <;> omega
  · have hq := hp.least
    obtain ⟨_, b, _⟩ := hp.lives3
    cases hl : p.lives with
    | nil => rw [hl] at b; simp at b
    | cons l r =>
      rw [hl] at hq
      have := maxL_le (r.map (·.2)) l.2 (hq l (List.mem_cons_self ..)).2 fun x hx => by
        obtain ⟨y, hy, rfl⟩ := List.mem_map.mp hx
        exact (hq y (List.mem_cons_of_mem _ hy)).2
      show maxL l.2 (r.map (·.2)) ≤ 8
      omega
theorem badst_no {p : Pt} (hp : VPt p) : ∀ d ∈ BADST p, isSt p d = false := by
  intro d hd
  have hg := gage_le hp
  have hl : (rowsB p).length = p.terms.length := by unfold rowsB; rw [List.length_map]
  unfold BADST at hd
  simp only [List.mem_cons, List.not_mem_nil, or_false] at hd
  rcases hd with rfl | rfl | rfl | rfl | rfl | rfl | rfl | rfl | rfl | rfl
  · rfl
  · rfl
  · rfl
  · simp [isSt, isNum]
  · have : isNum 0 (gage p) (.int 9) = false := by simp [isNum]; omega
    simp [isSt, this]
  · simp [isSt, isRows, hl]
  · simp [isSt, isNum]
  · rfl
  · simp [isSt, isRows]
  · simp [isSt, isNum, sv]
theorem badno_no (p : Pt) : ∀ d ∈ BADNO p, isNum 0 (p.terms.length - 1) d = false := by
  intro d hd
  unfold BADNO at hd
  simp only [List.mem_cons, List.not_mem_nil, or_false] at hd
  rcases hd with rfl | rfl | rfl | rfl | rfl
  · rfl
  · simp [isNum]
  · simp [isNum]; omega
  · rfl
  · rfl
section
variable {O : Orc} {fu lo : Nat} {S : Sto}
theorem bp_head : exCs O fu lo b__law_badpart [some a0, some a1, none, none, none] S = (exCs O fu lo (bpHead b__law_badpart) [some a0, some a1, none, none, none] S).then fun env S1 => exCs O fu lo (.cons (.ret (.idx (.var 4) (.call "_law_drawn" (.cons (.var 0) (.cons (.var 1) (.cons (.con (.int 18)) .nil)))))) .nil) env S1 := by
  kernel_rfl
theorem r_badpart {sc : PyData} (hd : DrawOk O sc) {a : Int} (a0 : 0 ≤ a) (a1 : a ≤ 800) : ∃ b ∈ BADS, ∀ S, runD O fu d__law_badpart [.d sc, .d (.int a)] S = .d b := by
  obtain ⟨v, v0, v1, ev⟩ := hd a 18 a0 (by omega) (by omega)
  obtain ⟨v, rfl⟩ : ∃ q : Nat, v = q := ⟨v.toNat, by omega⟩
  have hv : v < BADS.length := by show v < 18; omega
  refine ⟨BADS[v], List.getElem_mem hv, fun S => ?_⟩
  show outD S.length (exCs O fu S.length b__law_badpart [some (.d sc), some (.d (.int a)), none, none, none] S) = _
  have h1 : ∀ w0 w1 : Wd, ∃ x y, exCs O fu S.length (bpHead b__law_badpart) [some w0, some w1, none, none, none] S = .nx [some w0, some w1, x, y, some (.d (.list BADS))] S := fun w0 w1 => ⟨some (.d live1), some (.d (.tuple term1)), by kernel_rfl⟩
  obtain ⟨x, y, h1⟩ := h1 (.d sc) (.d (.int a))
  rw [bp_head, h1, then_nx]
  have h2 := idx_lst BADS hv
  generalize BADS[v] = b at h2
  generalize BADS = B at h2
  simp [ev, h2, -idx_l]
theorem r_badstate {sc : PyData} (hd : DrawOk O sc) {a : Int} (a0 : 0 ≤ a) (a1 : a ≤ 800) {p : Pt} (hp : VPt p) : ∃ b ∈ BADST p, ∀ S, runD O fu d__law_badstate [.d sc, .d (.int a), .d p.e] S = .d b := by
  obtain ⟨v, v0, v1, edr⟩ := hd a 10 a0 (by omega) (by omega)
  obtain ⟨v, rfl⟩ : ∃ q : Nat, v = q := ⟨v.toNat, by omega⟩
  have hv : v < (BADST p).length := by show v < 10; omega
  refine ⟨(BADST p)[v], List.getElem_mem hv, fun S => ?_⟩
  have h2 := idx_lst (BADST p) hv
  generalize (BADST p)[v] = b at h2
  have e4 : ∀ t : Tm, idxD t.e (.int 4) = some (.int t.cl) := fun _ => rfl
  have hl : (rowsB p).length + 1 ≤ LIM := by
    have := hp.terms
    unfold rowsB; rw [List.length_map]; unfold LIM; omega
  have l2 : 8 + 2 ≤ LIM := by unfold LIM; omega
  have l3 : 10 ≤ LIM := l2
  have hc : ev O S.length (.bi .tuple (.cons (.comp [4] (.v 4) (.of (.idx (.var 2) (.con (.int 3)))) none (.tup (.cons (.con (.int 0)) (.cons (.ite (.cmp .gt (.idx (.var 4) (.con (.int 4))) (.con (.int 0))) (.con (.int 0)) (.neg (.con (.int 1)))) .nil)))) .nil)) [some (.d sc), some (.d (.int a)), some (.d p.e), none, none, none] S = .ok (.d (.tuple (rowsB p))) S := by
    simp [ev_comp, -idx_t, -idx_l, e3]
    rw [comp_map (enc := Tm.e) (fun t => some (rowE (0, if 0 < t.cl then 0 else -1))) _ _ (by
      intro t _
      by_cases h : 0 < t.cl <;> simp [compF, -idx_t, -idx_l, e4, h, rowE]), fm_map]
    simp [biD, rowsB]
  unfold BADST at h2
  generalize hg : (E.bi .tuple (.cons (.comp [4] (.v 4) (.of (.idx (.var 2) (.con (.int 3)))) none (.tup (.cons (.con (.int 0)) (.cons (.ite (.cmp .gt (.idx (.var 4) (.con (.int 4))) (.con (.int 0))) (.con (.int 0)) (.neg (.con (.int 1)))) .nil)))) .nil)) = g at hc
  have hb : b__law_badstate = .cons (.set 3 g) (match b__law_badstate with | .cons _ z => z | _ => .nil) := by rw [← hg]; rfl
  show outD S.length (exCs O fu S.length b__law_badstate [some (.d sc), some (.d (.int a)), some (.d p.e), none, none, none] S) = _
  rw [hb, exCs_cons]
  simp only [exC_set, hc]
  generalize rowsB p = R at *
  simp [b__law_badstate, binD, biD, edr, hl, l2, l3, sv] at h2 ⊢
  simp [sv, h2]
def ERRC : List String := ["InvalidPart", "InvalidState", "InvalidNumber", "InvalidKind"]
variable {a b c d : PyData} {x : String} {n : Nat}
theorem r_err_0 (hx : placeOf x ERRC = some n) (h : ∀ S, O "uncovered" [.d a, .d b] S = .ex x) : runD O fu d__law_error [.d (.int 0), .d a, .d b, .d c, .d d] S = .d (.int n) := by
  unfold ERRC at hx
  simp [runD, d__law_error, b__law_error, fnAt, h, Rs.flag, hx]
theorem r_err_1 (hx : placeOf x ERRC = some n) (h : ∀ S, O "closing" [.d a, .d b] S = .ex x) : runD O fu d__law_error [.d (.int 1), .d a, .d b, .d c, .d d] S = .d (.int n) := by
  unfold ERRC at hx
  simp [runD, d__law_error, b__law_error, fnAt, h, Rs.flag, hx]
theorem r_err_2 (hx : placeOf x ERRC = some n) (h : ∀ S, O "days_open" [.d a, .d b, .d d] S = .ex x) : runD O fu d__law_error [.d (.int 2), .d a, .d b, .d c, .d d] S = .d (.int n) := by
  unfold ERRC at hx
  simp [runD, d__law_error, b__law_error, fnAt, h, Rs.flag, hx]
theorem r_err_3 (hx : placeOf x ERRC = some n) (h : ∀ S, O "reasons" [.d a, .d b, .d c, .d d] S = .ex x) : runD O fu d__law_error [.d (.int 3), .d a, .d b, .d c, .d d] S = .d (.int n) := by
  unfold ERRC at hx
  simp [runD, d__law_error, b__law_error, fnAt, h, Rs.flag, hx]
theorem x_is_state (h : ∀ S, O "check_part" [.d a] S = .ex x) : runD O fu d_is_state [.d a, .d b] S = .ex x := by
  simp [runD, d_is_state, b_is_state, h]
theorem x_chk_state (h : ∀ S, O "is_state" [.d a, .d b] S = .ex x) : runD O fu d_check_state [.d a, .d b] S = .ex x := by
  simp [runD, d_check_state, b_check_state, h]
theorem x_uncovered (h : ∀ S, O "check_state" [.d a, .d b] S = .ex x) : runD O fu d_uncovered [.d a, .d b] S = .ex x := by
  simp [runD, d_uncovered, b_uncovered, h]
theorem x_closing (h : ∀ S, O "check_state" [.d a, .d b] S = .ex x) : runD O fu d_closing [.d a, .d b] S = .ex x := by
  simp [runD, d_closing, b_closing, h]
theorem x_days_open (h : ∀ S, O "check_state" [.d a, .d b] S = .ex x) : runD O fu d_days_open [.d a, .d b, .d c] S = .ex x := by
  simp [runD, d_days_open, b_days_open, h]
theorem x_days_open2 (h : ∀ S, O "check_state" [.d a, .d b] S = .d .none) (h2 : ∀ S, O "check_kind" [.d c] S = .ex x) : runD O fu d_days_open [.d a, .d b, .d c] S = .ex x := by
  simp [runD, d_days_open, b_days_open, h, h2]
theorem x_reasons (h : ∀ S, O "check_state" [.d a, .d b] S = .ex x) : runD O fu d_reasons [.d a, .d b, .d c, .d d] S = .ex x := by
  simp [runD, d_reasons, b_reasons, h]
theorem x_reasons2 (h : ∀ S, O "check_state" [.d a, .d b] S = .d .none) (h2 : ∀ S, O "check_term_number" [.d a, .d c] S = .ex x) : runD O fu d_reasons [.d a, .d b, .d c, .d d] S = .ex x := by
  simp [runD, d_reasons, b_reasons, h, h2]
theorem x_reasons3 (h : ∀ S, O "check_state" [.d a, .d b] S = .d .none) (h2 : ∀ S, O "check_term_number" [.d a, .d c] S = .d .none) (h3 : ∀ S, O "check_kind" [.d d] S = .ex x) : runD O fu d_reasons [.d a, .d b, .d c, .d d] S = .ex x := by
  simp [runD, d_reasons, b_reasons, h, h2, h3]
theorem x_check_kind1 (h : ∀ S, O "is_kind" [.d d] S = .d (.bool false)) : runD O fu d_check_kind [.d d] S = .ex "InvalidKind" := by
  simp [runD, d_check_kind, b_check_kind, h]
theorem badkd_no : ∀ d ∈ BADKD, runD O fu d_is_kind [.d d] S = .d (.bool false) := by
  intro d hd
  unfold BADKD at hd
  simp only [List.mem_cons, List.not_mem_nil, or_false] at hd
  rcases hd with rfl | rfl | rfl | rfl | rfl
  all_goals kernel_rfl
end
end Rf
namespace Rf
open PySem
namespace K64
def T64 : List (String × Df) := [("_law_error", d__law_error), ("_law_badstate", d__law_badstate), ("_law_badpart", d__law_badpart), ("asked", d_asked), ("reasons", d_reasons), ("check_term_number", d_check_term_number), ("check_number", d_check_number), ("days_open", d_days_open), ("check_kind", d_check_kind), ("closing", d_closing), ("state_after_quiet", d_state_after_quiet), ("state_at_end_of_day", d_state_at_end_of_day), ("covered", d_covered), ("uncovered", d_uncovered), ("askable", d_askable), ("can_be_asked", d_can_be_asked), ("check_state", d_check_state), ("is_state", d_is_state), ("greatest_age", d_greatest_age), ("is_rows", d_is_rows), ("is_row", d_is_row), ("check_part", d_check_part), ("is_part", d_is_part), ("is_most", d_is_most), ("is_lives", d_is_lives), ("is_life", d_is_life), ("is_kind", d_is_kind), ("is_terms", d_is_terms), ("is_term", d_is_term), ("is_kinds", d_is_kinds), ("is_number", d_is_number), ("is_word", d_is_word), ("is_tuple", d_is_tuple), ("_law_asked", d__law_asked), ("_law_after", d__law_after), ("_law_state", d__law_state), ("_law_raw", d__law_raw), ("_law_drawn", d__law_drawn)]
theorem hd64 {f : String} {d : Df} (q : lk T64 f = some d) (ws : List Wd) (S : Sto) : orc 1000 T64 f ws S = runD (orc 1000 (tailOf T64 f)) 1000 d ws S := orc_hd q ws S
theorem tl64 {f g : String} (q : okB T64 f g = true) : orc 1000 (tailOf T64 f) g = orc 1000 T64 g := orc_tl q
theorem c_law_drawn {ns : List Int} (h63 : ns.length ≤ 63) : DrawOk (orc 1000 T64) (.list (ns.map .int)) := fun k m h0 h1 h2 => by
  obtain ⟨v, a, b, c⟩ := drawn_run (O := orc 1000 (tailOf T64 "_law_drawn")) (fu := 1000) ns h63 (by decide) k m h0 h1 h2
  exact ⟨v, a, b, fun S => by rw [hd64 (f := "_law_drawn") (d := d__law_drawn) (by kernel_rfl)]; exact c S⟩
theorem c_law_raw {ns : List Int} (h63 : ns.length ≤ 63) {a m : Int} (a0 : 0 ≤ a) (a1 : a ≤ 800) (m0 : 0 ≤ m) (m1 : m ≤ 3) : ∃ p : Pt, RawPt p ∧ ∀ S, (orc 1000 T64) "_law_raw" [.d (.list (ns.map .int)), .d (.int a), .d (.int m)] S = .d p.e := by
  obtain ⟨p, h, q⟩ := raw_run (O := orc 1000 (tailOf T64 "_law_raw")) (fu := 1000) (sc := .list (ns.map .int)) (by unfold DrawOk; rw [tl64 (f := "_law_raw") (g := "_law_drawn") (by kernel_rfl)]; exact c_law_drawn h63) a0 a1 m0 m1
  exact ⟨p, h, fun S => by rw [hd64 (f := "_law_raw") (d := d__law_raw) (by kernel_rfl)]; exact q S⟩
theorem c_law_state {ns : List Int} (h63 : ns.length ≤ 63) {a : Int} (a0 : 0 ≤ a) (a1 : a ≤ 800) {p : Pt} (h : VPt p) : ∃ s : St, StOk p s ∧ ∀ S, (orc 1000 T64) "_law_state" [.d (.list (ns.map .int)), .d (.int a), .d p.e] S = .d (stE s) := by
  obtain ⟨s, h, q⟩ := state_run (O := orc 1000 (tailOf T64 "_law_state")) (fu := 1000) (sc := .list (ns.map .int)) (by unfold DrawOk; rw [tl64 (f := "_law_state") (g := "_law_drawn") (by kernel_rfl)]; exact c_law_drawn h63) a0 a1 h
  exact ⟨s, h, fun S => by rw [hd64 (f := "_law_state") (d := d__law_state) (by kernel_rfl)]; exact q S⟩
theorem c_law_after {p : Pt} (po : PtOk p) {s : St} (hs : Fits p s) : ∀ (e : Str) (n : Option Nat) (S : Sto), okD (.str e) = true → (orc 1000 T64) "_law_after" [.d p.e, .d (stE s), .d (.str e), .d (optE n)] S = .d (stE (lawMove p s e n)) := fun e n S he => by rw [hd64 (f := "_law_after") (d := d__law_after) (by kernel_rfl)]; exact r_law_after po.small hs he n
theorem c_law_asked {p : Pt} (po : PtOk p) {s : St} (hs : Fits p s) : ∀ (k : Str) (S : Sto), (orc 1000 T64) "_law_asked" [.d p.e, .d (stE s), .d (.str k)] S = .d (.list ((able p s k).map fun n => .int (n : Nat))) := fun k S => by rw [hd64 (f := "_law_asked") (d := d__law_asked) (by kernel_rfl)]; exact r_law_asked po.small hs k
theorem c_is_tuple : KT (orc 1000 T64) := fun d a b S => by rw [hd64 (f := "is_tuple") (d := d_is_tuple) (by kernel_rfl)]; exact r_is_tuple ..
theorem c_is_word : ∀ x ∈ NAMES, ∀ S : Sto, (orc 1000 T64) "is_word" [.d (.str x)] S = .d (.bool true) := fun x h S => by rw [hd64 (f := "is_word") (d := d_is_word) (by kernel_rfl)]; exact w_names h
theorem c_is_number : KN (orc 1000 T64) := fun d a b S => by rw [hd64 (f := "is_number") (d := d_is_number) (by kernel_rfl)]; exact r_is_number ..
theorem c_is_kinds : ∀ x ∈ KNDS, ∀ S : Sto, (orc 1000 T64) "is_kinds" [.d (.str x)] S = .d (.bool true) := fun x h S => by rw [hd64 (f := "is_kinds") (d := d_is_kinds) (by kernel_rfl)]; exact w_kinds h
theorem c_is_term : ∀ (t : Tm) (S : Sto), VTm t → (orc 1000 T64) "is_term" [.d (Tm.e t)] S = .d (.bool true) := fun t S h => by rw [hd64 (f := "is_term") (d := d_is_term) (by kernel_rfl)]; exact r_is_termV (by rw [tl64 (f := "is_term") (g := "is_word") (by kernel_rfl)]; exact c_is_word) (by unfold KN; rw [tl64 (f := "is_term") (g := "is_number") (by kernel_rfl)]; exact c_is_number) (by unfold KT; rw [tl64 (f := "is_term") (g := "is_tuple") (by kernel_rfl)]; exact c_is_tuple) (by rw [tl64 (f := "is_term") (g := "is_kinds") (by kernel_rfl)]; exact c_is_kinds) h
theorem c_is_terms {ts : List Tm} (hl : ts.length ≤ 3) (hv : ∀ t ∈ ts, VTm t) (hd : (ts.map (·.pay)).Nodup) : ∀ S : Sto, (orc 1000 T64) "is_terms" [.d (.tuple (ts.map Tm.e))] S = .d (.bool true) := fun S => by rw [hd64 (f := "is_terms") (d := d_is_terms) (by kernel_rfl)]; exact r_is_termsV (by unfold KT; rw [tl64 (f := "is_terms") (g := "is_tuple") (by kernel_rfl)]; exact c_is_tuple) (by rw [tl64 (f := "is_terms") (g := "is_term") (by kernel_rfl)]; exact c_is_term) hl hv hd
theorem c_is_kind : ∀ x ∈ KIND3, ∀ S : Sto, (orc 1000 T64) "is_kind" [.d (.str x)] S = .d (.bool true) := fun x h S => by rw [hd64 (f := "is_kind") (d := d_is_kind) (by kernel_rfl)]; exact w_kind h
theorem c_is_life : ∀ (k : Str) (a : Int) (S : Sto), k ∈ KIND3 → 0 ≤ a → a ≤ 6 → (orc 1000 T64) "is_life" [.d (lifeE (k, a))] S = .d (.bool true) := fun k a S h h0 h1 => by rw [hd64 (f := "is_life") (d := d_is_life) (by kernel_rfl)]; exact r_is_lifeV (by rw [tl64 (f := "is_life") (g := "is_kind") (by kernel_rfl)]; exact c_is_kind) (by unfold KN; rw [tl64 (f := "is_life") (g := "is_number") (by kernel_rfl)]; exact c_is_number) (by unfold KT; rw [tl64 (f := "is_life") (g := "is_tuple") (by kernel_rfl)]; exact c_is_tuple) h h0 h1
theorem c_is_lives {p : Pt} (h : VPt p) : ∀ S : Sto, (orc 1000 T64) "is_lives" [.d (.tuple (p.lives.map lifeE))] S = .d (.bool true) := fun S => by rw [hd64 (f := "is_lives") (d := d_is_lives) (by kernel_rfl)]; exact r_is_livesV (by rw [tl64 (f := "is_lives") (g := "is_life") (by kernel_rfl)]; exact c_is_life) (by unfold KT; rw [tl64 (f := "is_lives") (g := "is_tuple") (by kernel_rfl)]; exact c_is_tuple) (by rw [tl64 (f := "is_lives") (g := "is_kinds") (by kernel_rfl)]; exact c_is_kinds) h
theorem c_is_most {p : Pt} (h : VPt p) : ∀ S : Sto, (orc 1000 T64) "is_most" [.d (.int p.most), .d (.tuple (p.lives.map lifeE))] S = .d (.bool true) := fun S => by rw [hd64 (f := "is_most") (d := d_is_most) (by kernel_rfl)]; exact r_is_mostV (by unfold KN; rw [tl64 (f := "is_most") (g := "is_number") (by kernel_rfl)]; exact c_is_number) h
theorem c_is_part {p : Pt} (h : VPt p) : ∀ S : Sto, (orc 1000 T64) "is_part" [.d p.e] S = .d (.bool true) := fun S => by rw [hd64 (f := "is_part") (d := d_is_part) (by kernel_rfl)]; exact r_is_partV (by unfold KN; rw [tl64 (f := "is_part") (g := "is_number") (by kernel_rfl)]; exact c_is_number) (by unfold KT; rw [tl64 (f := "is_part") (g := "is_tuple") (by kernel_rfl)]; exact c_is_tuple) (by rw [tl64 (f := "is_part") (g := "is_lives") (by kernel_rfl)]; exact c_is_lives h) (by rw [tl64 (f := "is_part") (g := "is_most") (by kernel_rfl)]; exact c_is_most h) (by rw [tl64 (f := "is_part") (g := "is_terms") (by kernel_rfl)]; exact c_is_terms h.terms h.tv h.dis) h
theorem c_check_part {p : Pt} (h : VPt p) : ∀ S : Sto, (orc 1000 T64) "check_part" [.d p.e] S = .d .none := fun S => by rw [hd64 (f := "check_part") (d := d_check_part) (by kernel_rfl)]; exact r_check_part (by rw [tl64 (f := "check_part") (g := "is_part") (by kernel_rfl)]; exact c_is_part h)
theorem c_is_row : ∀ (t : Tm) (d : PyData) (S : Sto), (orc 1000 T64) "is_row" [.d (Tm.e t), .d d] S = .d (.bool (isRow t d)) := fun t d S => by rw [hd64 (f := "is_row") (d := d_is_row) (by kernel_rfl)]; exact r_is_row t d (by rw [tl64 (f := "is_row") (g := "is_number") (by kernel_rfl)]; exact c_is_number) (by rw [tl64 (f := "is_row") (g := "is_tuple") (by kernel_rfl)]; exact c_is_tuple)
theorem c_is_rows (p : Pt) : ∀ (d : PyData) (S : Sto), (orc 1000 T64) "is_rows" [.d p.e, .d d] S = .d (.bool (isRows p d)) := fun d S => by rw [hd64 (f := "is_rows") (d := d_is_rows) (by kernel_rfl)]; exact r_is_rows p d (by rw [tl64 (f := "is_rows") (g := "is_row") (by kernel_rfl)]; exact c_is_row) (by rw [tl64 (f := "is_rows") (g := "is_tuple") (by kernel_rfl)]; exact c_is_tuple)
theorem c_greatest_age {p : Pt} (po : PtOk p) : ∀ S : Sto, (orc 1000 T64) "greatest_age" [.d p.e] S = .d (.int (gage p)) := fun S => by rw [hd64 (f := "greatest_age") (d := d_greatest_age) (by kernel_rfl)]; exact r_greatest_age po.small.live
theorem c_is_state {p : Pt} (h : VPt p) : ∀ (d : PyData) (S : Sto), (orc 1000 T64) "is_state" [.d p.e, .d d] S = .d (.bool (isSt p d)) := fun d S => by rw [hd64 (f := "is_state") (d := d_is_state) (by kernel_rfl)]; exact r_is_state p d (by rw [tl64 (f := "is_state") (g := "check_part") (by kernel_rfl)]; exact c_check_part h) (by rw [tl64 (f := "is_state") (g := "is_number") (by kernel_rfl)]; exact c_is_number) (by rw [tl64 (f := "is_state") (g := "is_tuple") (by kernel_rfl)]; exact c_is_tuple) (by rw [tl64 (f := "is_state") (g := "greatest_age") (by kernel_rfl)]; exact c_greatest_age h.ok) (by rw [tl64 (f := "is_state") (g := "is_rows") (by kernel_rfl)]; exact c_is_rows p)
theorem c_check_state {p : Pt} (h : VPt p) {s : St} (so : StOk p s) : ∀ S : Sto, (orc 1000 T64) "check_state" [.d p.e, .d (stE s)] S = .d .none := fun S => by rw [hd64 (f := "check_state") (d := d_check_state) (by kernel_rfl)]; exact r_check_state so (by rw [tl64 (f := "check_state") (g := "is_state") (by kernel_rfl)]; exact c_is_state h)
theorem x_check_state {p : Pt} (h : VPt p) {d : PyData} (hd : isSt p d = false) : ∀ S : Sto, (orc 1000 T64) "check_state" [.d p.e, .d d] S = .ex "InvalidState" := fun S => by rw [hd64 (f := "check_state") (d := d_check_state) (by kernel_rfl)]; exact r_check_state_no hd (by rw [tl64 (f := "check_state") (g := "is_state") (by kernel_rfl)]; exact c_is_state h)
theorem c_can_be_asked : ∀ (t : Tm) (r : Row) (k : Str) (S : Sto), (orc 1000 T64) "can_be_asked" [.d (Tm.e t), .d (rowE r), .d (.str k)] S = .d (.bool (can t r k)) := fun t r k S => by rw [hd64 (f := "can_be_asked") (d := d_can_be_asked) (by kernel_rfl)]; exact r_can_be_asked ..
theorem c_askable (p : Pt) (s : St) : ∀ (k : Str) (S : Sto), (orc 1000 T64) "askable" [.d p.e, .d (stE s), .d (.str k)] S = .d (.list ((able p s k).map fun n => .int (n : Nat))) := fun k S => by rw [hd64 (f := "askable") (d := d_askable) (by kernel_rfl)]; exact r_askable p s k (by rw [tl64 (f := "askable") (g := "can_be_asked") (by kernel_rfl)]; exact c_can_be_asked)
theorem c_uncovered {p : Pt} (h : VPt p) {s : St} (so : StOk p s) : ∀ S : Sto, (orc 1000 T64) "uncovered" [.d p.e, .d (stE s)] S = .d (.list ((uncK p s).map .str)) := fun S => by rw [hd64 (f := "uncovered") (d := d_uncovered) (by kernel_rfl)]; exact r_uncovered (by rw [tl64 (f := "uncovered") (g := "check_state") (by kernel_rfl)]; exact c_check_state h so) (by rw [tl64 (f := "uncovered") (g := "askable") (by kernel_rfl)]; exact c_askable p s)
theorem c_covered (p : Pt) : ∀ (s : St) (S : Sto), (orc 1000 T64) "covered" [.d p.e, .d (stE s)] S = .d (.list ((covK p s).map .str)) := fun s S => by rw [hd64 (f := "covered") (d := d_covered) (by kernel_rfl)]; exact r_covered (by rw [tl64 (f := "covered") (g := "askable") (by kernel_rfl)]; exact c_askable p s)
theorem c_state_at_end_of_day {p : Pt} (po : PtOk p) : ∀ (a : Int) (rs : List Row) (S : Sto), (orc 1000 T64) "state_at_end_of_day" [.d p.e, .d (.int a), .d (.tuple (List.map rowE rs))] S = .d (stE (endDay p a rs)) := fun a rs S => by rw [hd64 (f := "state_at_end_of_day") (d := d_state_at_end_of_day) (by kernel_rfl)]; exact r_state_at_end_of_day p a rs (by rw [tl64 (f := "state_at_end_of_day") (g := "greatest_age") (by kernel_rfl)]; exact c_greatest_age po)
theorem c_state_after_quiet {p : Pt} (po : PtOk p) (s : St) : ∀ S : Sto, (orc 1000 T64) "state_after_quiet" [.d p.e, .d (stE s)] S = .d (stE (endDay p s.1 s.2)) := fun S => by rw [hd64 (f := "state_after_quiet") (d := d_state_after_quiet) (by kernel_rfl)]; exact r_state_after_quiet (by rw [tl64 (f := "state_after_quiet") (g := "state_at_end_of_day") (by kernel_rfl)]; exact c_state_at_end_of_day po)
theorem c_closing {p : Pt} (h : VPt p) {s : St} (so : StOk p s) : ∀ S : Sto, (orc 1000 T64) "closing" [.d p.e, .d (stE s)] S = .d (.list ((clsK p s).map .str)) := fun S => by rw [hd64 (f := "closing") (d := d_closing) (by kernel_rfl)]; exact r_closing h.ok.small (by rw [tl64 (f := "closing") (g := "check_state") (by kernel_rfl)]; exact c_check_state h so) (by rw [tl64 (f := "closing") (g := "state_after_quiet") (by kernel_rfl)]; exact c_state_after_quiet h.ok s) (by rw [tl64 (f := "closing") (g := "covered") (by kernel_rfl)]; exact c_covered p)
theorem c_check_kind {k : Str} (hk : k ∈ KIND3) : ∀ S : Sto, (orc 1000 T64) "check_kind" [.d (.str k)] S = .d .none := fun S => by rw [hd64 (f := "check_kind") (d := d_check_kind) (by kernel_rfl)]; exact r_check_kind_ok (by rw [tl64 (f := "check_kind") (g := "is_kind") (by kernel_rfl)]; exact c_is_kind k hk)
theorem c_days_open {p : Pt} (h : VPt p) {s : St} (so : StOk p s) {k : Str} (hk : k ∈ KIND3) : ∀ S : Sto, (orc 1000 T64) "days_open" [.d p.e, .d (stE s), .d (.str k)] S = .d (.int (opens p s k)) := fun S => by rw [hd64 (f := "days_open") (d := d_days_open) (by kernel_rfl)]; exact r_days_open so.fits (by rw [tl64 (f := "days_open") (g := "check_state") (by kernel_rfl)]; exact c_check_state h so) (by rw [tl64 (f := "days_open") (g := "check_kind") (by kernel_rfl)]; exact c_check_kind hk) (by rw [tl64 (f := "days_open") (g := "askable") (by kernel_rfl)]; exact c_askable p s k)
theorem c_check_number {d : PyData} {a b : Int} (h : isNum a b d = true) : ∀ S : Sto, (orc 1000 T64) "check_number" [.d d, .d (.int a), .d (.int b)] S = .d .none := fun S => by rw [hd64 (f := "check_number") (d := d_check_number) (by kernel_rfl)]; exact r_check_number_ok (by unfold KN; rw [tl64 (f := "check_number") (g := "is_number") (by kernel_rfl)]; exact c_is_number) h
theorem x_check_number {d : PyData} {a b : Int} (h : isNum a b d = false) : ∀ S : Sto, (orc 1000 T64) "check_number" [.d d, .d (.int a), .d (.int b)] S = .ex "InvalidNumber" := fun S => by rw [hd64 (f := "check_number") (d := d_check_number) (by kernel_rfl)]; exact r_check_number_no (by unfold KN; rw [tl64 (f := "check_number") (g := "is_number") (by kernel_rfl)]; exact c_is_number) h
theorem c_check_term_number (p : Pt) {d : PyData} (h : isNum 0 (p.terms.length - 1) d = true) : ∀ S : Sto, (orc 1000 T64) "check_term_number" [.d p.e, .d d] S = .d .none := fun S => by rw [hd64 (f := "check_term_number") (d := d_check_term_number) (by kernel_rfl)]; exact r_check_term_number (by rw [tl64 (f := "check_term_number") (g := "check_number") (by kernel_rfl)]; exact c_check_number h) (.inl rfl)
theorem x_check_term_number (p : Pt) {d : PyData} (h : isNum 0 (p.terms.length - 1) d = false) : ∀ S : Sto, (orc 1000 T64) "check_term_number" [.d p.e, .d d] S = .ex "InvalidNumber" := fun S => by rw [hd64 (f := "check_term_number") (d := d_check_term_number) (by kernel_rfl)]; exact r_check_term_number (by rw [tl64 (f := "check_term_number") (g := "check_number") (by kernel_rfl)]; exact x_check_number h) (.inr rfl)
theorem c_reasons {p : Pt} (h : VPt p) {s : St} (so : StOk p s) {n : Nat} (hn : n < p.terms.length) {k : Str} (hk : k ∈ KIND3) : ∀ S : Sto, (orc 1000 T64) "reasons" [.d p.e, .d (stE s), .d (.int n), .d (.str k)] S = .fresh ((whyL p.terms[n] (s.2[n]'(by have := so.fits; unfold Fits at this; omega)) k).map .str) := fun S => by rw [hd64 (f := "reasons") (d := d_reasons) (by kernel_rfl)]; exact r_reasons so.fits hn (by rw [tl64 (f := "reasons") (g := "check_state") (by kernel_rfl)]; exact c_check_state h so) (by rw [tl64 (f := "reasons") (g := "check_term_number") (by kernel_rfl)]; exact c_check_term_number p (num_ok hn)) (by rw [tl64 (f := "reasons") (g := "check_kind") (by kernel_rfl)]; exact c_check_kind hk)
theorem c_asked {p : Pt} (h : VPt p) {s : St} (so : StOk p s) {k : Str} (hk : k ∈ KIND3) : ∀ S : Sto, (orc 1000 T64) "asked" [.d p.e, .d (stE s), .d (.str k)] S = .d (.list ((able p s k).map fun n => .int (n : Nat))) := fun S => by rw [hd64 (f := "asked") (d := d_asked) (by kernel_rfl)]; exact r_asked (by rw [tl64 (f := "asked") (g := "check_state") (by kernel_rfl)]; exact c_check_state h so) (by rw [tl64 (f := "asked") (g := "check_kind") (by kernel_rfl)]; exact c_check_kind hk) (by rw [tl64 (f := "asked") (g := "askable") (by kernel_rfl)]; exact c_askable p s k)
end K64
end Rf
namespace Rf
open PySem
namespace K64

theorem c_bpart {ns : List Int} (h63 : ns.length ≤ 63) {a : Int} (a0 : 0 ≤ a) (a1 : a ≤ 800) : ∃ b ∈ BADS, ∀ S, (orc 1000 T64) "_law_badpart" [.d (.list (ns.map .int)), .d (.int a)] S = .d b := by
  obtain ⟨b, h, q⟩ := r_badpart (O := orc 1000 (tailOf T64 "_law_badpart")) (fu := 1000) (sc := .list (ns.map .int)) (by unfold DrawOk; rw [tl64 (f := "_law_badpart") (g := "_law_drawn") (by kernel_rfl)]; exact c_law_drawn h63) a0 a1
  exact ⟨b, h, fun S => by rw [hd64 (f := "_law_badpart") (d := d__law_badpart) (by kernel_rfl)]; exact q S⟩
theorem c_bstate {ns : List Int} (h63 : ns.length ≤ 63) {a : Int} (a0 : 0 ≤ a) (a1 : a ≤ 800) {p : Pt} (hp : VPt p) : ∃ b ∈ BADST p, ∀ S, (orc 1000 T64) "_law_badstate" [.d (.list (ns.map .int)), .d (.int a), .d p.e] S = .d b := by
  obtain ⟨b, h, q⟩ := r_badstate (O := orc 1000 (tailOf T64 "_law_badstate")) (fu := 1000) (sc := .list (ns.map .int)) (by unfold DrawOk; rw [tl64 (f := "_law_badstate") (g := "_law_drawn") (by kernel_rfl)]; exact c_law_drawn h63) a0 a1 hp
  exact ⟨b, h, fun S => by rw [hd64 (f := "_law_badstate") (d := d__law_badstate) (by kernel_rfl)]; exact q S⟩
theorem x_check_part : ∀ b ∈ BADS, ∀ S : Sto, (orc 1000 T64) "check_part" [.d b] S = .ex "InvalidPart" := by
  intro b hb S
  unfold BADS at hb
  simp only [List.mem_cons, List.not_mem_nil, or_false] at hb
  rcases hb with rfl | rfl | rfl | rfl | rfl | rfl | rfl | rfl | rfl | rfl | rfl | rfl | rfl | rfl | rfl | rfl | rfl | rfl
  all_goals kernel_rfl
/-- a part that is none, or a state that is none -/
theorem x_cs {a b : PyData} {x : String} (h : (∀ S : Sto, (orc 1000 T64) "is_state" [.d a, .d b] S = .ex x) ∨ ∀ S : Sto, (orc 1000 T64) "check_state" [.d a, .d b] S = .ex x) : ∀ S : Sto, (orc 1000 T64) "check_state" [.d a, .d b] S = .ex x := by
  rcases h with h | h
  · exact fun S => by rw [hd64 (f := "check_state") (d := d_check_state) (by kernel_rfl)]; exact x_chk_state (by rw [tl64 (f := "check_state") (g := "is_state") (by kernel_rfl)]; exact h)
  · exact h
theorem x_st {a b : PyData} (ha : a ∈ BADS) : ∀ S : Sto, (orc 1000 T64) "check_state" [.d a, .d b] S = .ex "InvalidPart" := by
  refine x_cs (.inl fun S => ?_)
  rw [hd64 (f := "is_state") (d := d_is_state) (by kernel_rfl)]
  exact x_is_state (by rw [tl64 (f := "is_state") (g := "check_part") (by kernel_rfl)]; exact x_check_part a ha)
theorem x_all {a b : PyData} {x : String} {n : Nat} (hx : placeOf x ERRC = some n) (h : ∀ S : Sto, (orc 1000 T64) "check_state" [.d a, .d b] S = .ex x) (no kd : PyData) : ∀ w : Nat, w < 4 → ∀ S : Sto, (orc 1000 T64) "_law_error" [.d (.int w), .d a, .d b, .d no, .d kd] S = .d (.int n) := by
  intro w hw S
  rw [hd64 (f := "_law_error") (d := d__law_error) (by kernel_rfl)]
  obtain rfl | rfl | rfl | rfl : w = 0 ∨ w = 1 ∨ w = 2 ∨ w = 3 := by omega
  · exact r_err_0 hx (by rw [tl64 (f := "_law_error") (g := "uncovered") (by kernel_rfl)]; exact fun S => by rw [hd64 (f := "uncovered") (d := d_uncovered) (by kernel_rfl)]; exact x_uncovered (by rw [tl64 (f := "uncovered") (g := "check_state") (by kernel_rfl)]; exact h))
  · exact r_err_1 hx (by rw [tl64 (f := "_law_error") (g := "closing") (by kernel_rfl)]; exact fun S => by rw [hd64 (f := "closing") (d := d_closing) (by kernel_rfl)]; exact x_closing (by rw [tl64 (f := "closing") (g := "check_state") (by kernel_rfl)]; exact h))
  · exact r_err_2 hx (by rw [tl64 (f := "_law_error") (g := "days_open") (by kernel_rfl)]; exact fun S => by rw [hd64 (f := "days_open") (d := d_days_open) (by kernel_rfl)]; exact x_days_open (by rw [tl64 (f := "days_open") (g := "check_state") (by kernel_rfl)]; exact h))
  · exact r_err_3 hx (by rw [tl64 (f := "_law_error") (g := "reasons") (by kernel_rfl)]; exact fun S => by rw [hd64 (f := "reasons") (d := d_reasons) (by kernel_rfl)]; exact x_reasons (by rw [tl64 (f := "reasons") (g := "check_state") (by kernel_rfl)]; exact h))
theorem x_kind {d : PyData} (h : d ∈ BADKD) : ∀ S : Sto, (orc 1000 T64) "check_kind" [.d d] S = .ex "InvalidKind" := fun S => by
  rw [hd64 (f := "check_kind") (d := d_check_kind) (by kernel_rfl)]
  exact x_check_kind1 (by rw [tl64 (f := "check_kind") (g := "is_kind") (by kernel_rfl)]; exact fun S => by rw [hd64 (f := "is_kind") (d := d_is_kind) (by kernel_rfl)]; exact badkd_no d h)
theorem e_kd {p : Pt} (hp : VPt p) {s : St} (so : StOk p s) {no kd : PyData} (h : kd ∈ BADKD) : ∀ S : Sto, (orc 1000 T64) "_law_error" [.d (.int 2), .d p.e, .d (stE s), .d no, .d kd] S = .d (.int 3) := fun S => by
  rw [hd64 (f := "_law_error") (d := d__law_error) (by kernel_rfl)]
  exact r_err_2 (x := "InvalidKind") (n := 3) (by decide) (by rw [tl64 (f := "_law_error") (g := "days_open") (by kernel_rfl)]; exact fun S => by rw [hd64 (f := "days_open") (d := d_days_open) (by kernel_rfl)]; exact x_days_open2 (by rw [tl64 (f := "days_open") (g := "check_state") (by kernel_rfl)]; exact c_check_state hp so) (by rw [tl64 (f := "days_open") (g := "check_kind") (by kernel_rfl)]; exact x_kind h))
theorem e_no {p : Pt} (hp : VPt p) {s : St} (so : StOk p s) {no kd : PyData} (h : no ∈ BADNO p) : ∀ S : Sto, (orc 1000 T64) "_law_error" [.d (.int 3), .d p.e, .d (stE s), .d no, .d kd] S = .d (.int 2) := fun S => by
  rw [hd64 (f := "_law_error") (d := d__law_error) (by kernel_rfl)]
  exact r_err_3 (x := "InvalidNumber") (n := 2) (by decide) (by rw [tl64 (f := "_law_error") (g := "reasons") (by kernel_rfl)]; exact fun S => by rw [hd64 (f := "reasons") (d := d_reasons) (by kernel_rfl)]; exact x_reasons2 (by rw [tl64 (f := "reasons") (g := "check_state") (by kernel_rfl)]; exact c_check_state hp so) (by rw [tl64 (f := "reasons") (g := "check_term_number") (by kernel_rfl)]; exact x_check_term_number p (badno_no p no h)))
theorem e_kd3 {p : Pt} (hp : VPt p) {s : St} (so : StOk p s) {kd : PyData} (h : kd ∈ BADKD) (hn : 0 < p.terms.length) : ∀ S : Sto, (orc 1000 T64) "_law_error" [.d (.int 3), .d p.e, .d (stE s), .d (.int 0), .d kd] S = .d (.int 3) := fun S => by
  rw [hd64 (f := "_law_error") (d := d__law_error) (by kernel_rfl)]
  exact r_err_3 (x := "InvalidKind") (n := 3) (by decide) (by rw [tl64 (f := "_law_error") (g := "reasons") (by kernel_rfl)]; exact fun S => by rw [hd64 (f := "reasons") (d := d_reasons) (by kernel_rfl)]; exact x_reasons3 (by rw [tl64 (f := "reasons") (g := "check_state") (by kernel_rfl)]; exact c_check_state hp so) (by rw [tl64 (f := "reasons") (g := "check_term_number") (by kernel_rfl)]; exact c_check_term_number p (num_ok (n := 0) hn)) (by rw [tl64 (f := "reasons") (g := "check_kind") (by kernel_rfl)]; exact x_kind h))
theorem h64 {p : Pt} (h : VPt p) : H64 (orc 1000 T64) p where
  asked := fun s hs k S => c_law_asked h.ok hs k S
  after := fun s hs S => by
    have := c_law_after h.ok hs noS none S ok_empty
    rw [lawMove_quiet hs] at this
    exact this
  unc := fun s so S => c_uncovered h so S
  cls := fun s so S => c_closing h so S
  opn := fun s so k hk S => c_days_open h so hk S
  rea := fun s so n t r ht hr k hk S => by
    obtain ⟨h1, e1⟩ := List.getElem?_eq_some_iff.mp ht
    obtain ⟨h2, e2⟩ := List.getElem?_eq_some_iff.mp hr
    have := c_reasons h so h1 hk S
    rw [e1, e2] at this
    exact this
  ask := fun s so k hk S => c_asked h so hk S
end K64
end Rf
namespace Rf
open PySem
section
variable {O : Orc} {fu lo : Nat} {S : Sto}
theorem l64_abc {p : Pt} (hp : VPt p) (A : H64 O p) (hfu : 10 < fu) {s : St} (so : StOk p s) (v0 v2 v4 v5 v6 v7 v8 v9 v10 v11 v12 v13 v14 v15 v16 v17 v18 v19 : Option Wd) :
    ∃ w8 w9 w10 w11 w12 w13 w14 w15, exC O fu lo (.loop (.v 8) (.of (.con (.str (Str.ofString "abc")))) l64k) [v0, some (.d p.e), v2, some (.d (stE s)), v4, v5, v6, v7, v8, v9, v10, v11, v12, v13, v14, v15, v16, v17, v18, v19] S =
      .nx [v0, some (.d p.e), v2, some (.d (stE s)), v4, v5, v6, v7, w8, w9, w10, w11, w12, w13, w14, w15, v16, v17, v18, v19] S := by
  obtain ⟨a9, a10, a11, a12, a13, a14, a15, qa⟩ := l64k_one (O := O) (fu := fu) (lo := lo) (S := S) hp A hfu so (k := Str.ofString "a") (by simp [KIND3]) v0 v2 v4 v5 v6 v7 v8 v9 v10 v11 v12 v13 v14 v15 v16 v17 v18 v19
  obtain ⟨b9, b10, b11, b12, b13, b14, b15, qb⟩ := l64k_one (O := O) (fu := fu) (lo := lo) (S := S) hp A hfu so (k := Str.ofString "b") (by simp [KIND3]) v0 v2 v4 v5 v6 v7 (some (.d (.str (Str.ofString "a")))) a9 a10 a11 a12 a13 a14 a15 v16 v17 v18 v19
  obtain ⟨c9, c10, c11, c12, c13, c14, c15, qc⟩ := l64k_one (O := O) (fu := fu) (lo := lo) (S := S) hp A hfu so (k := Str.ofString "c") (by simp [KIND3]) v0 v2 v4 v5 v6 v7 (some (.d (.str (Str.ofString "b")))) b9 b10 b11 b12 b13 b14 b15 v16 v17 v18 v19
  refine ⟨some (.d (.str (Str.ofString "c"))), c9, c10, c11, c12, c13, c14, c15, ?_⟩
  have hi : itemsD (.str (Str.ofString "abc")) = some [.str (Str.ofString "a"), .str (Str.ofString "b"), .str (Str.ofString "c")] := by kernel_rfl
  rw [exC_loop]
  generalize loopF O fu lo (.v 8) l64k = st at *
  simp [hi, forGo, qa, qb, qc]
theorem l64a_one {p : Pt} (hp : VPt p) (A : H64 O p) (hfu : 10 < fu) {sc : PyData} (hs : ∀ a : Int, 0 ≤ a → a ≤ 800 → ∃ s, StOk p s ∧ ∀ S, O "_law_state" [.d sc, .d (.int a), .d p.e] S = .d (stE s)) {k : Int} (k0 : 0 ≤ k) (k1 : k < 4) (v2 v3 v4 v5 v6 v7 v8 v9 v10 v11 v12 v13 v14 v15 v16 v17 v18 v19 : Option Wd) :
    ∃ s, StOk p s ∧ ∃ w4 w5 w6 w7 w8 w9 w10 w11 w12 w13 w14 w15, loopF O fu lo (.v 2) l64a (.int k) [some (.d sc), some (.d p.e), v2, v3, v4, v5, v6, v7, v8, v9, v10, v11, v12, v13, v14, v15, v16, v17, v18, v19] S =
      .nx [some (.d sc), some (.d p.e), some (.d (.int k)), some (.d (stE s)), w4, w5, w6, w7, w8, w9, w10, w11, w12, w13, w14, w15, v16, v17, v18, v19] S := by
  obtain ⟨s, so, es⟩ := hs (60 + 8 * k) (by omega) (by omega)
  have kk := kinds_ok hp
  obtain ⟨w8, w9, w10, w11, w12, w13, w14, w15, q⟩ := l64_abc (O := O) (fu := fu) (lo := lo) (S := S) hp A hfu so (some (.d sc)) (some (.d (.int k))) (some (.d (.list ((kinds p).map .str)))) (some (.d (stE (endDay p s.1 s.2)))) v6 (some (.d (.list ((covK p s).map .str)))) v8 v9 v10 v11 v12 v13 v14 v15 v16 v17 v18 v19
  refine ⟨s, so, some (.d (.list ((kinds p).map .str))), some (.d (stE (endDay p s.1 s.2))), v6, some (.d (.list ((covK p s).map .str))), w8, w9, w10, w11, w12, w13, w14, w15, ?_⟩
  · have i1 : ∀ l : Str × Int, idxD (lifeE l) (.int 0) = some (.str l.1) := fun _ => rfl
    have hK : ∀ a2 a3 a4 a5 a6 a7 a8 a9 a10 a11 a12 a13 a14 a15 a16 a17 a18 a19 : Option Wd, ev O lo (.comp [6] (.v 6) (.of (.idx (.var 1) (.con (.int 1)))) none (.idx (.var 6) (.con (.int 0)))) [some (.d sc), some (.d p.e), a2, a3, a4, a5, a6, a7, a8, a9, a10, a11, a12, a13, a14, a15, a16, a17, a18, a19] S = .ok (.d (.list ((kinds p).map .str))) S := by
      intros
      simp [ev_comp, -idx_t, -idx_l, e1]
      rw [comp_map (enc := lifeE) (fun l => some (.str l.1)) _ _ (by intro l _; simp [compF, -idx_t, -idx_l, i1]), fm_map]
      simp [kinds]
    have hC : ev O lo (.comp [8] (.v 8) (.of (.var 4)) (some (.cmp .ne (.call "_law_asked" (.cons (.var 1) (.cons (.var 3) (.cons (.var 8) .nil)))) (.lst .nil))) (.var 8)) [some (.d sc), some (.d p.e), some (.d (.int k)), some (.d (stE s)), some (.d (.list ((kinds p).map .str))), some (.d (stE (endDay p s.1 s.2))), v6, v7, v8, v9, v10, v11, v12, v13, v14, v15, v16, v17, v18, v19] S = .ok (.d (.list ((covK p s).map .str))) S := by
      simp [ev_comp]
      rw [comp_map (enc := PyData.str) (fun k => if (!(able p s k).isEmpty) = true then some (.str k) else none) _ _ (by
        intro x hx
        have hn := ne_nats (able p s x)
        have ha := fun S => A.asked s so.fits x S
        cases hq : (able p s x).isEmpty <;> simp [hq] at hn <;> simp [compF, ha, hn, hq]), fm_filter, ← covK_eq]
      simp
    have hU : ev O lo (.comp [8] (.v 8) (.of (.var 4)) (some (.cmp .nin (.var 8) (.var 7))) (.var 8)) [some (.d sc), some (.d p.e), some (.d (.int k)), some (.d (stE s)), some (.d (.list ((kinds p).map .str))), some (.d (stE (endDay p s.1 s.2))), v6, some (.d (.list ((covK p s).map .str))), v8, v9, v10, v11, v12, v13, v14, v15, v16, v17, v18, v19] S = .ok (.d (.list ((uncK p s).map .str))) S := by
      simp [ev_comp]
      rw [comp_map (enc := PyData.str) (fun k => if (!decide (k ∈ covK p s)) = true then some (.str k) else none) _ _ (by
        intro x hx
        have hn := nin_strs (kk x hx) (covK_okk hp s)
        by_cases h : x ∈ covK p s <;> simp [compF, hn, h]), fm_filter, ← uncK_eq]
      simp
    have hD : ev O lo (.comp [8] (.v 8) (.of (.var 7)) (some (.cmp .eq (.call "_law_asked" (.cons (.var 1) (.cons (.var 5) (.cons (.var 8) .nil)))) (.lst .nil))) (.var 8)) [some (.d sc), some (.d p.e), some (.d (.int k)), some (.d (stE s)), some (.d (.list ((kinds p).map .str))), some (.d (stE (endDay p s.1 s.2))), v6, some (.d (.list ((covK p s).map .str))), v8, v9, v10, v11, v12, v13, v14, v15, v16, v17, v18, v19] S = .ok (.d (.list ((clsK p s).map .str))) S := by
      simp [ev_comp]
      rw [comp_map (enc := PyData.str) (fun k => if (able p (endDay p s.1 s.2) k).isEmpty = true then some (.str k) else none) _ _ (by
        intro x hx
        have hn := eq_natsB (able p (endDay p s.1 s.2) x)
        have ha := fun S => A.asked _ (fits_end so.fits) x S
        generalize able p (endDay p s.1 s.2) x = L at *
        generalize stE (endDay p s.1 s.2) = Z at *
        cases hq : L.isEmpty <;> simp [hq] at hn <;> simp [compF, ha, hn, hq]), fm_filter, ← clsK_eq]
      simp
    have hn1 : cmpD .ne (.list ((uncK p s).map .str)) (.list ((uncK p s).map .str)) = some false := ne_same (okD_strs fun x hx => kk x (by rw [uncK_eq] at hx; exact (List.mem_filter.mp hx).1))
    have hn2 : cmpD .ne (.list ((clsK p s).map .str)) (.list ((clsK p s).map .str)) = some false := ne_same (okD_strs fun x hx => covK_okk hp s x (by rw [clsK_eq] at hx; exact (List.mem_filter.mp hx).1))
    have eu := fun S => A.unc s so S
    have ec := fun S => A.cls s so S
    have ea := fun S => A.after s so.fits S
    have hb : l64a = .cons (.set 3 (.call "_law_state" (.cons (.var 0) (.cons (.bin .add (.con (.int 60)) (.bin .mul (.con (.int 8)) (.var 2))) (.cons (.var 1) .nil)))))
      (.cons (.unp [4, 5] (.tup (.cons (.comp [6] (.v 6) (.of (.idx (.var 1) (.con (.int 1)))) none (.idx (.var 6) (.con (.int 0)))) (.cons (.call "_law_after" (.cons (.var 1) (.cons (.var 3) (.cons (.con (.str (Str.ofString ""))) (.cons (.con .none) .nil))))) .nil))))
      (.cons (.set 7 (.comp [8] (.v 8) (.of (.var 4)) (some (.cmp .ne (.call "_law_asked" (.cons (.var 1) (.cons (.var 3) (.cons (.var 8) .nil)))) (.lst .nil))) (.var 8)))
      (.cons (.ife (.cmp .ne (.call "uncovered" (.cons (.var 1) (.cons (.var 3) .nil))) (.comp [8] (.v 8) (.of (.var 4)) (some (.cmp .nin (.var 8) (.var 7))) (.var 8))) (.cons (.ret (.con (.bool false))) .nil) .nil)
      (.cons (.ife (.cmp .ne (.call "closing" (.cons (.var 1) (.cons (.var 3) .nil))) (.comp [8] (.v 8) (.of (.var 7)) (some (.cmp .eq (.call "_law_asked" (.cons (.var 1) (.cons (.var 5) (.cons (.var 8) .nil)))) (.lst .nil))) (.var 8))) (.cons (.ret (.con (.bool false))) .nil) .nil)
      (.cons (.loop (.v 8) (.of (.con (.str (Str.ofString "abc")))) l64k) .nil))))) := rfl
    generalize (E.comp [6] (.v 6) (.of (.idx (.var 1) (.con (.int 1)))) none (.idx (.var 6) (.con (.int 0)))) = g1 at hb hK
    generalize (E.comp [8] (.v 8) (.of (.var 4)) (some (.cmp .ne (.call "_law_asked" (.cons (.var 1) (.cons (.var 3) (.cons (.var 8) .nil)))) (.lst .nil))) (.var 8)) = g2 at hb hC
    generalize (E.comp [8] (.v 8) (.of (.var 4)) (some (.cmp .nin (.var 8) (.var 7))) (.var 8)) = g3 at hb hU
    generalize (E.comp [8] (.v 8) (.of (.var 7)) (some (.cmp .eq (.call "_law_asked" (.cons (.var 1) (.cons (.var 5) (.cons (.var 8) .nil)))) (.lst .nil))) (.var 8)) = g4 at hb hD
    generalize (C.loop (.v 8) (.of (.con (.str (Str.ofString "abc")))) l64k) = g5 at hb q
    have hm : binD .mul (.int 8) (.int k) = some (.int (8 * k)) := rfl
    show exCs O fu lo l64a [some (.d sc), some (.d p.e), some (.d (.int k)), v3, v4, v5, v6, v7, v8, v9, v10, v11, v12, v13, v14, v15, v16, v17, v18, v19] S = _
    have s_1 : exC O fu lo (.set 3 (.call "_law_state" (.cons (.var 0) (.cons (.bin .add (.con (.int 60)) (.bin .mul (.con (.int 8)) (.var 2))) (.cons (.var 1) .nil))))) [some (.d sc), some (.d p.e), some (.d (.int k)), v3, v4, v5, v6, v7, v8, v9, v10, v11, v12, v13, v14, v15, v16, v17, v18, v19] S =
        .nx [some (.d sc), some (.d p.e), some (.d (.int k)), some (.d (stE s)), v4, v5, v6, v7, v8, v9, v10, v11, v12, v13, v14, v15, v16, v17, v18, v19] S := by
      simp [hm, es]
    have s_2 : exC O fu lo (.unp [4, 5] (.tup (.cons g1 (.cons (.call "_law_after" (.cons (.var 1) (.cons (.var 3) (.cons (.con (.str (Str.ofString ""))) (.cons (.con .none) .nil))))) .nil)))) [some (.d sc), some (.d p.e), some (.d (.int k)), some (.d (stE s)), v4, v5, v6, v7, v8, v9, v10, v11, v12, v13, v14, v15, v16, v17, v18, v19] S =
        .nx [some (.d sc), some (.d p.e), some (.d (.int k)), some (.d (stE s)), some (.d (.list ((kinds p).map .str))), some (.d (stE (endDay p s.1 s.2))), v6, v7, v8, v9, v10, v11, v12, v13, v14, v15, v16, v17, v18, v19] S := by
      simp [hK, ea]
    rw [hb, exCs_cons, s_1, then_nx, exCs_cons, s_2, then_nx]
    simp [hC, eu, hU, hn1, ec, hD, hn2, q]
end
end Rf
namespace Rf
open PySem
section
variable {O : Orc} {fu lo : Nat} {S : Sto}
theorem l64_loop {p : Pt} (hp : VPt p) (A : H64 O p) (hfu : 10 < fu) {sc : PyData} (hs : ∀ a : Int, 0 ≤ a → a ≤ 800 → ∃ s, StOk p s ∧ ∀ S, O "_law_state" [.d sc, .d (.int a), .d p.e] S = .d (stE s)) (v2 v3 v4 v5 v6 v7 v8 v9 v10 v11 v12 v13 v14 v15 v16 v17 v18 v19 : Option Wd) :
    ∃ s, StOk p s ∧ ∃ w2 w4 w5 w6 w7 w8 w9 w10 w11 w12 w13 w14 w15, exC O fu lo (.loop (.v 2) (.range1 (.cons (.con (.int 4)) .nil)) l64a) [some (.d sc), some (.d p.e), v2, v3, v4, v5, v6, v7, v8, v9, v10, v11, v12, v13, v14, v15, v16, v17, v18, v19] S =
      .nx [some (.d sc), some (.d p.e), w2, some (.d (stE s)), w4, w5, w6, w7, w8, w9, w10, w11, w12, w13, w14, w15, v16, v17, v18, v19] S := by
  obtain ⟨s0, so0, a4, a5, a6, a7, a8, a9, a10, a11, a12, a13, a14, a15, qa⟩ := l64a_one (O := O) (fu := fu) (lo := lo) (S := S) hp A hfu hs (k := 0) (by omega) (by omega) v2 v3 v4 v5 v6 v7 v8 v9 v10 v11 v12 v13 v14 v15 v16 v17 v18 v19
  obtain ⟨s1, so1, b4, b5, b6, b7, b8, b9, b10, b11, b12, b13, b14, b15, qb⟩ := l64a_one (O := O) (fu := fu) (lo := lo) (S := S) hp A hfu hs (k := 1) (by omega) (by omega) (some (.d (.int 0))) (some (.d (stE s0))) a4 a5 a6 a7 a8 a9 a10 a11 a12 a13 a14 a15 v16 v17 v18 v19
  obtain ⟨s2, so2, c4, c5, c6, c7, c8, c9, c10, c11, c12, c13, c14, c15, qc⟩ := l64a_one (O := O) (fu := fu) (lo := lo) (S := S) hp A hfu hs (k := 2) (by omega) (by omega) (some (.d (.int 1))) (some (.d (stE s1))) b4 b5 b6 b7 b8 b9 b10 b11 b12 b13 b14 b15 v16 v17 v18 v19
  obtain ⟨s3, so3, d4, d5, d6, d7, d8, d9, d10, d11, d12, d13, d14, d15, qd⟩ := l64a_one (O := O) (fu := fu) (lo := lo) (S := S) hp A hfu hs (k := 3) (by omega) (by omega) (some (.d (.int 2))) (some (.d (stE s2))) c4 c5 c6 c7 c8 c9 c10 c11 c12 c13 c14 c15 v16 v17 v18 v19
  refine ⟨s3, so3, some (.d (.int 3)), d4, d5, d6, d7, d8, d9, d10, d11, d12, d13, d14, d15, ?_⟩
  have hi : ∀ env : Env, evI O lo (.range1 (.cons (.con (.int 4)) .nil)) env S = .ok ([.int 0, .int 1, .int 2, .int 3], []) S := fun env => by
    rw [evI_upTo (n := 4) (by simp) (by omega)]; rfl
  rw [exC_loop, hi]
  generalize loopF O fu lo (.v 2) l64a = st at *
  simp [forGo, qa, qb, qc, qd]
/-- what the law's end asks for -/
structure E64 (O : Orc) (sc : PyData) (p : Pt) : Prop where
  dr : DrawOk O sc
  odd : ∀ a : Int, 0 ≤ a → a ≤ 800 → ∃ b ∈ BADS, ∀ S, O "_law_badpart" [.d sc, .d (.int a)] S = .d b
  bad : ∀ a : Int, 0 ≤ a → a ≤ 800 → ∃ b ∈ BADST p, ∀ S, O "_law_badstate" [.d sc, .d (.int a), .d p.e] S = .d b
  e0 : ∀ b ∈ BADS, ∀ (s no kd : PyData) (w : Nat), w < 4 → ∀ S, O "_law_error" [.d (.int w), .d b, .d s, .d no, .d kd] S = .d (.int 0)
  e1 : ∀ b ∈ BADST p, ∀ (no kd : PyData) (w : Nat), w < 4 → ∀ S, O "_law_error" [.d (.int w), .d p.e, .d b, .d no, .d kd] S = .d (.int 1)
  e2 : ∀ s, StOk p s → ∀ (no kd : PyData), kd ∈ BADKD → ∀ S, O "_law_error" [.d (.int 2), .d p.e, .d (stE s), .d no, .d kd] S = .d (.int 3)
  e3 : ∀ s, StOk p s → ∀ (no kd : PyData), no ∈ BADNO p → ∀ S, O "_law_error" [.d (.int 3), .d p.e, .d (stE s), .d no, .d kd] S = .d (.int 2)
  e4 : ∀ s, StOk p s → ∀ (kd : PyData), kd ∈ BADKD → 0 < p.terms.length → ∀ S, O "_law_error" [.d (.int 3), .d p.e, .d (stE s), .d (.int 0), .d kd] S = .d (.int 3)
theorem l64_comp {a b c d : PyData} {env : Env} {i j k l : Nat} {r : Int} (hl : env.length = 20) (h : ∀ w : Nat, w < 4 → ∀ S, O "_law_error" [.d (.int w), .d a, .d b, .d c, .d d] S = .d (.int r))
    (ha : (env.set 19 none)[i]? = some (some (.d a))) (hb : (env.set 19 none)[j]? = some (some (.d b))) (hc : (env.set 19 none)[k]? = some (some (.d c))) (hd : (env.set 19 none)[l]? = some (some (.d d))) (ni : i ≠ 19) (nj : j ≠ 19) (nk : k ≠ 19) (nl : l ≠ 19) :
    ev O lo (.comp [19] (.v 19) (.range1 (.cons (.con (.int 4)) .nil)) none (.call "_law_error" (.cons (.var 19) (.cons (.var i) (.cons (.var j) (.cons (.var k) (.cons (.var l) .nil))))))) env S = .ok (.d (.list [.int r, .int r, .int r, .int r])) S := by
  rw [ev_comp, evI_upTo (n := 4) (by simp) (by omega), bind_ok]
  have hw : wipeE env [19] = env.set 19 none := rfl
  show (compGo _ ((upTo 0 4).map PyData.int) S).bind _ = _
  rw [comp_map (enc := PyData.int) (fun _ => some (.int r)) _ _ (by
    intro x hx
    have := upTo_mem _ _ _ hx
    obtain ⟨w, rfl⟩ : ∃ q : Nat, x = q := ⟨x.toNat, by omega⟩
    have h4 := h w (by omega)
    have g : ∀ (m : Nat) (y : Option Wd), m ≠ 19 → (env.set 19 y)[m]? = (env.set 19 none)[m]? := fun m y hm => by rw [List.getElem?_set_ne (fun z => hm z.symm), List.getElem?_set_ne (fun z => hm z.symm)]
    have g19 : (env.set 19 (some (.d (.int w))))[19]? = some (some (.d (.int w))) := by rw [List.getElem?_set_self (by omega)]
    have q : ∀ env' : Env, env'[19]? = some (some (.d (.int w))) → env'[i]? = some (some (.d a)) → env'[j]? = some (some (.d b)) → env'[k]? = some (some (.d c)) → env'[l]? = some (some (.d d)) → ev O lo (.call "_law_error" (.cons (.var 19) (.cons (.var i) (.cons (.var j) (.cons (.var k) (.cons (.var l) .nil)))))) env' S = .ok (.d (.int r)) S := by
      intro env' h1 h2 h3 h4' h5
      simp [h1, h2, h3, h4', h5, h4]
    have q2 := q _ g19 ((g _ _ ni).trans ha) ((g _ _ nj).trans hb) ((g _ _ nk).trans hc) ((g _ _ nl).trans hd)
    unfold compF
    rw [hw]
    generalize (E.call "_law_error" (.cons (.var 19) (.cons (.var i) (.cons (.var j) (.cons (.var k) (.cons (.var l) .nil)))))) = G at q2
    simp [q2])]
  rfl
end
end Rf
namespace Rf
open PySem
def l64e : Cs := match b_law_k64 with
  | .cons _ (.cons _ z) => z
  | _ => .nil
theorem ok_kstr {x : Str} (h : x ∈ KNDS) : okD (.str x) = true := by
  rcases mem8.mp h with rfl | rfl | rfl | rfl | rfl | rfl | rfl | rfl <;> decide +kernel
theorem ok_tm {t : Tm} (h : VTm t) : (Tm.e t).canLay0 = true ∧ (Tm.e t).depth ≤ 1 := by
  refine ⟨?_, Nat.le_refl _⟩
  have h1 := okD_lay (ok_names h.pay)
  have h2 := okD_lay (ok_kstr h.kinds)
  have h3 := okD_lay (ok_rens h.ren)
  show ((PyData.str t.pay).canLay0 && (true && ((PyData.str t.kinds).canLay0 && ((PyData.str t.ren).canLay0 && (true && (true && true)))))) = true
  rw [h1, h2, h3]; rfl
theorem okD_tms {p : Pt} (hp : VPt p) : okD (.tuple (p.terms.map Tm.e)) = true := (okD_map Tm.e p.terms 1 (by decide) fun t ht => ok_tm (hp.tv t ht)).2
section
variable {O : Orc} {fu lo : Nat} {S : Sto}
theorem l64_end {p : Pt} (hp : VPt p) {sc : PyData} (A : E64 O sc p) {s : St} (so : StOk p s) (w2 w4 w5 w6 w7 w8 w9 w10 w11 w12 w13 w14 w15 v16 v17 v18 v19 : Option Wd) :
    exCs O fu lo l64e [some (.d sc), some (.d p.e), w2, some (.d (stE s)), w4, w5, w6, w7, w8, w9, w10, w11, w12, w13, w14, w15, v16, v17, v18, v19] S = .rt (.d (.bool true)) S := by
  obtain ⟨b, hb, eb⟩ := A.odd 1 (by omega) (by omega)
  obtain ⟨d, hd, ed⟩ := A.bad 2 (by omega) (by omega)
  obtain ⟨v, v0, v1, ev3⟩ := A.dr 3 5 (by omega) (by omega) (by omega)
  obtain ⟨v, rfl⟩ : ∃ q : Nat, v = q := ⟨v.toNat, by omega⟩
  obtain ⟨u, u0, u1, ev4⟩ := A.dr 4 5 (by omega) (by omega) (by omega)
  obtain ⟨u, rfl⟩ : ∃ q : Nat, u = q := ⟨u.toNat, by omega⟩
  have hv : v < (BADNO p).length := by show v < 5; omega
  have hu : u < BADKD.length := by show u < 5; omega
  have iv := idx_lst (BADNO p) hv
  have iu := idx_lst BADKD hu
  have mv : (BADNO p)[v] ∈ BADNO p := List.getElem_mem hv
  have mu : BADKD[u] ∈ BADKD := List.getElem_mem hu
  generalize (BADNO p)[v] = no at iv mv
  generalize BADKD[u] = kd at iu mu
  have x1 := A.e0 b hb d no kd
  have x2 := A.e1 d hd no kd
  have x3 := A.e2 s so no kd mu
  have x4 := A.e3 s so no kd mv
  have x5 := A.e4 s so kd mu
  have s_1 : exC O fu lo (.unp [16, 17] (.tup (.cons (.call "_law_badpart" (.cons (.var 0) (.cons (.con (.int 1)) .nil))) (.cons (.call "_law_badstate" (.cons (.var 0) (.cons (.con (.int 2)) (.cons (.var 1) .nil)))) .nil)))) [some (.d sc), some (.d p.e), w2, some (.d (stE s)), w4, w5, w6, w7, w8, w9, w10, w11, w12, w13, w14, w15, v16, v17, v18, v19] S =
      .nx [some (.d sc), some (.d p.e), w2, some (.d (stE s)), w4, w5, w6, w7, w8, w9, w10, w11, w12, w13, w14, w15, some (.d b), some (.d d), v18, v19] S := by
    simp [eb, ed]
  have s_2 : exC O fu lo (.set 11 (.idx (.lst (.cons (.con .none) (.cons (.neg (.con (.int 1))) (.cons (.bi .len (.cons (.idx (.var 1) (.con (.int 3))) .nil)) (.cons (.con (.bool true)) (.cons (.con (.str (Str.ofString "0"))) .nil)))))) (.call "_law_drawn" (.cons (.var 0) (.cons (.con (.int 3)) (.cons (.con (.int 5)) .nil)))))) [some (.d sc), some (.d p.e), w2, some (.d (stE s)), w4, w5, w6, w7, w8, w9, w10, w11, w12, w13, w14, w15, some (.d b), some (.d d), v18, v19] S =
      .nx [some (.d sc), some (.d p.e), w2, some (.d (stE s)), w4, w5, w6, w7, w8, w9, w10, some (.d no), w12, w13, w14, w15, some (.d b), some (.d d), v18, v19] S := by
    have hL : ∀ env : Env, env[1]? = some (some (.d p.e)) → ev O lo (.lst (.cons (.con .none) (.cons (.neg (.con (.int 1))) (.cons (.bi .len (.cons (.idx (.var 1) (.con (.int 3))) .nil)) (.cons (.con (.bool true)) (.cons (.con (.str (Str.ofString "0"))) .nil)))))) env S = .ok (.d (.list (BADNO p))) S := fun env h => by
      simp [h, -idx_t, -idx_l, e3, biD, BADNO, sv]
    rw [exC_set, ev_idx, hL _ rfl]
    generalize BADNO p = B at *
    simp [ev3, -idx_t, -idx_l, iv]
  have s_3 : exC O fu lo (.set 8 (.idx (.lst (.cons (.con .none) (.cons (.con (.str (Str.ofString ""))) (.cons (.con (.str (Str.ofString "d"))) (.cons (.con (.str (Str.ofString "ab"))) (.cons (.con (.int 1)) .nil)))))) (.call "_law_drawn" (.cons (.var 0) (.cons (.con (.int 4)) (.cons (.con (.int 5)) .nil)))))) [some (.d sc), some (.d p.e), w2, some (.d (stE s)), w4, w5, w6, w7, w8, w9, w10, some (.d no), w12, w13, w14, w15, some (.d b), some (.d d), v18, v19] S =
      .nx [some (.d sc), some (.d p.e), w2, some (.d (stE s)), w4, w5, w6, w7, some (.d kd), w9, w10, some (.d no), w12, w13, w14, w15, some (.d b), some (.d d), v18, v19] S := by
    have hL : ∀ env : Env, ev O lo (.lst (.cons (.con .none) (.cons (.con (.str (Str.ofString ""))) (.cons (.con (.str (Str.ofString "d"))) (.cons (.con (.str (Str.ofString "ab"))) (.cons (.con (.int 1)) .nil)))))) env S = .ok (.d (.list BADKD)) S := fun env => by
      simp [BADKD, sv]
    rw [exC_set, ev_idx, hL]
    generalize BADKD = B at *
    simp [ev4, -idx_t, -idx_l, iu]
  have c_1 := l64_comp (O := O) (lo := lo) (S := S) (i := 16) (j := 17) (k := 11) (l := 8) (env := [some (.d sc), some (.d p.e), w2, some (.d (stE s)), w4, w5, w6, w7, some (.d kd), w9, w10, some (.d no), w12, w13, w14, w15, some (.d b), some (.d d), v18, v19]) (r := 0) rfl x1 rfl rfl rfl rfl (by decide) (by decide) (by decide) (by decide)
  have c_2 := fun v18 => l64_comp (O := O) (lo := lo) (S := S) (i := 1) (j := 17) (k := 11) (l := 8) (env := [some (.d sc), some (.d p.e), w2, some (.d (stE s)), w4, w5, w6, w7, some (.d kd), w9, w10, some (.d no), w12, w13, w14, w15, some (.d b), some (.d d), v18, v19]) (r := 1) rfl x2 rfl rfl rfl rfl (by decide) (by decide) (by decide) (by decide)
  have lim : ∀ n, n ≤ 20 → n ≤ LIM := fun n h => by unfold LIM; omega
  have l1 := lim 8 (by omega)
  have l2 := lim 10 (by omega)
  have l3 := lim 4 (by omega)
  have hcmp : cmpD .eq (.list [.int 0, .int 0, .int 0, .int 0, .int 1, .int 1, .int 1, .int 1, .int 3, .int 2]) (.list [.int 0, .int 0, .int 0, .int 0, .int 1, .int 1, .int 1, .int 1, .int 3, .int 2]) = some true := by decide +kernel
  have hr : ∀ env : Env, env[18]? = some (some (.d (.list [.int 0, .int 0, .int 0, .int 0, .int 1, .int 1, .int 1, .int 1, .int 3, .int 2]))) → exC O fu lo (.ret (.cmp .eq (.var 18) (.bin .add (.bin .add (.bin .mul (.lst (.cons (.con (.int 0)) .nil)) (.con (.int 4))) (.bin .mul (.lst (.cons (.con (.int 1)) .nil)) (.con (.int 4)))) (.lst (.cons (.con (.int 3)) (.cons (.con (.int 2)) .nil)))))) env S = .rt (.d (.bool true)) S := fun env h => by
    have m1 : binD .mul (.list [.int 0]) (.int 4) = some (.list [.int 0, .int 0, .int 0, .int 0]) := by kernel_rfl
    have m2 : binD .mul (.list [.int 1]) (.int 4) = some (.list [.int 1, .int 1, .int 1, .int 1]) := by kernel_rfl
    have a1 : binD .add (.list [.int 0, .int 0, .int 0, .int 0]) (.list [.int 1, .int 1, .int 1, .int 1]) = some (.list [.int 0, .int 0, .int 0, .int 0, .int 1, .int 1, .int 1, .int 1]) := by kernel_rfl
    have a2 : binD .add (.list [.int 0, .int 0, .int 0, .int 0, .int 1, .int 1, .int 1, .int 1]) (.list [.int 3, .int 2]) = some (.list [.int 0, .int 0, .int 0, .int 0, .int 1, .int 1, .int 1, .int 1, .int 3, .int 2]) := by kernel_rfl
    simp [h, m1, m2, a1, a2, hcmp]
  have hq : ∀ env : Env, env[1]? = some (some (.d p.e)) → env[3]? = some (some (.d (stE s))) → env[8]? = some (some (.d kd)) → exC O fu lo (.ife (.and (.cmp .ne (.idx (.var 1) (.con (.int 3))) (.tup .nil)) (.cmp .ne (.call "_law_error" (.cons (.con (.int 3)) (.cons (.var 1) (.cons (.var 3) (.cons (.con (.int 0)) (.cons (.var 8) .nil)))))) (.con (.int 3)))) (.cons (.ret (.con (.bool false))) .nil) .nil) env S = .nx env S := by
    intro env h1 h3 h8
    have ht : cmpD .ne (.tuple (p.terms.map Tm.e)) (.tuple []) = some (!p.terms.isEmpty) := by
      have h2 := okD_tms hp
      show (if (okD (.tuple (p.terms.map Tm.e)) && okD (.tuple [])) = true then some (!PyData.eqv (.tuple (p.terms.map Tm.e)) (.tuple [])) else none) = _
      rw [h2]
      cases p.terms <;> rfl
    cases hz : p.terms.isEmpty with
    | true => simp [h1, -idx_t, -idx_l, e3, ht, hz]
    | false =>
      have h4 := x5 (by cases hq : p.terms with
        | nil => rw [hq] at hz; cases hz
        | cons _ _ => simp)
      simp [h1, h3, h8, -idx_t, -idx_l, e3, ht, hz, h4]
  have hb : l64e = .cons (.unp [16, 17] (.tup (.cons (.call "_law_badpart" (.cons (.var 0) (.cons (.con (.int 1)) .nil))) (.cons (.call "_law_badstate" (.cons (.var 0) (.cons (.con (.int 2)) (.cons (.var 1) .nil)))) .nil))))
    (.cons (.set 11 (.idx (.lst (.cons (.con .none) (.cons (.neg (.con (.int 1))) (.cons (.bi .len (.cons (.idx (.var 1) (.con (.int 3))) .nil)) (.cons (.con (.bool true)) (.cons (.con (.str (Str.ofString "0"))) .nil)))))) (.call "_law_drawn" (.cons (.var 0) (.cons (.con (.int 3)) (.cons (.con (.int 5)) .nil))))))
    (.cons (.set 8 (.idx (.lst (.cons (.con .none) (.cons (.con (.str (Str.ofString ""))) (.cons (.con (.str (Str.ofString "d"))) (.cons (.con (.str (Str.ofString "ab"))) (.cons (.con (.int 1)) .nil)))))) (.call "_law_drawn" (.cons (.var 0) (.cons (.con (.int 4)) (.cons (.con (.int 5)) .nil))))))
    (.cons (.set 18 (.comp [19] (.v 19) (.range1 (.cons (.con (.int 4)) .nil)) none (.call "_law_error" (.cons (.var 19) (.cons (.var 16) (.cons (.var 17) (.cons (.var 11) (.cons (.var 8) .nil))))))))
    (.cons (.set 18 (.bin .add (.var 18) (.comp [19] (.v 19) (.range1 (.cons (.con (.int 4)) .nil)) none (.call "_law_error" (.cons (.var 19) (.cons (.var 1) (.cons (.var 17) (.cons (.var 11) (.cons (.var 8) .nil)))))))))
    (.cons (.set 18 (.bin .add (.var 18) (.lst (.cons (.call "_law_error" (.cons (.con (.int 2)) (.cons (.var 1) (.cons (.var 3) (.cons (.var 11) (.cons (.var 8) .nil)))))) (.cons (.call "_law_error" (.cons (.con (.int 3)) (.cons (.var 1) (.cons (.var 3) (.cons (.var 11) (.cons (.var 8) .nil)))))) .nil)))))
    (.cons (.ife (.and (.cmp .ne (.idx (.var 1) (.con (.int 3))) (.tup .nil)) (.cmp .ne (.call "_law_error" (.cons (.con (.int 3)) (.cons (.var 1) (.cons (.var 3) (.cons (.con (.int 0)) (.cons (.var 8) .nil)))))) (.con (.int 3)))) (.cons (.ret (.con (.bool false))) .nil) .nil)
    (.cons (.ret (.cmp .eq (.var 18) (.bin .add (.bin .add (.bin .mul (.lst (.cons (.con (.int 0)) .nil)) (.con (.int 4))) (.bin .mul (.lst (.cons (.con (.int 1)) .nil)) (.con (.int 4)))) (.lst (.cons (.con (.int 3)) (.cons (.con (.int 2)) .nil)))))) .nil))))))) := rfl
  rw [hb, exCs_cons, s_1, then_nx, exCs_cons, s_2, then_nx, exCs_cons, s_3, then_nx, exCs_cons, exC_set, c_1]
  generalize (E.comp [19] (.v 19) (.range1 (.cons (.con (.int 4)) .nil)) none (.call "_law_error" (.cons (.var 19) (.cons (.var 1) (.cons (.var 17) (.cons (.var 11) (.cons (.var 8) .nil))))))) = g2 at c_2
  generalize (C.ife (.and (.cmp .ne (.idx (.var 1) (.con (.int 3))) (.tup .nil)) (.cmp .ne (.call "_law_error" (.cons (.con (.int 3)) (.cons (.var 1) (.cons (.var 3) (.cons (.con (.int 0)) (.cons (.var 8) .nil)))))) (.con (.int 3)))) (.cons (.ret (.con (.bool false))) .nil) .nil) = gi at hq
  generalize (C.ret (.cmp .eq (.var 18) (.bin .add (.bin .add (.bin .mul (.lst (.cons (.con (.int 0)) .nil)) (.con (.int 4))) (.bin .mul (.lst (.cons (.con (.int 1)) .nil)) (.con (.int 4)))) (.lst (.cons (.con (.int 3)) (.cons (.con (.int 2)) .nil)))))) = gr at hr
  simp [c_2, binD, l1, l2, l3, x3, x4, hq, hr]
end
end Rf
namespace Rf
open PySem
namespace K64
theorem e64 {ns : List Int} (h63 : ns.length ≤ 63) {p : Pt} (hp : VPt p) : E64 (orc 1000 T64) (.list (ns.map .int)) p where
  dr := c_law_drawn h63
  odd := fun a a0 a1 => c_bpart h63 a0 a1
  bad := fun a a0 a1 => c_bstate h63 a0 a1 hp
  e0 := fun b hb s no kd w hw S => x_all (x := "InvalidPart") (n := 0) (by decide) (x_st hb) no kd w hw S
  e1 := fun b hb no kd w hw S => x_all (x := "InvalidState") (n := 1) (by decide) (x_check_state hp (badst_no hp b hb)) no kd w hw S
  e2 := fun s so no kd hk S => e_kd hp so hk S
  e3 := fun s so no kd hn S => e_no hp so hn S
  e4 := fun s so kd hk hn S => e_kd3 hp so hk hn S
end K64
theorem law64 {ns : List Int} (h63 : ns.length ≤ 63) : runD (orc 1000 K64.T64) 1000 d_law_k64 [.d (.list (ns.map .int))] [] = .d (.bool true) := by
  obtain ⟨p, hr, ep⟩ := K64.c_law_raw h63 (a := 10) (m := 3) (by omega) (by omega) (by omega) (by omega)
  have A := K64.h64 hr.v
  have B := K64.e64 h63 hr.v
  have D := fun (a : Int) (a0 : 0 ≤ a) (a1 : a ≤ 800) => K64.c_law_state h63 a0 a1 hr.v
  generalize orc 1000 K64.T64 = O at *
  obtain ⟨s, so, w2, w4, w5, w6, w7, w8, w9, w10, w11, w12, w13, w14, w15, q⟩ := l64_loop (O := O) (fu := 1000) (lo := 0) (S := []) hr.v A (by decide) D none none none none none none none none none none none none none none none none none none
  have q2 := l64_end (O := O) (fu := 1000) (lo := 0) (S := []) hr.v B so w2 w4 w5 w6 w7 w8 w9 w10 w11 w12 w13 w14 w15 none none none none
  have hb : b_law_k64 = .cons (.set 1 (.call "_law_raw" (.cons (.var 0) (.cons (.con (.int 10)) (.cons (.con (.int 3)) .nil))))) (.cons (.loop (.v 2) (.range1 (.cons (.con (.int 4)) .nil)) l64a) l64e) := rfl
  have s1 : exC O 1000 0 (.set 1 (.call "_law_raw" (.cons (.var 0) (.cons (.con (.int 10)) (.cons (.con (.int 3)) .nil))))) [some (.d (.list (ns.map .int))), none, none, none, none, none, none, none, none, none, none, none, none, none, none, none, none, none, none, none] [] = .nx [some (.d (.list (ns.map .int))), some (.d p.e), none, none, none, none, none, none, none, none, none, none, none, none, none, none, none, none, none, none] [] := by
    simp [ep]
  show outD 0 (exCs O 1000 0 b_law_k64 [some (.d (.list (ns.map .int))), none, none, none, none, none, none, none, none, none, none, none, none, none, none, none, none, none, none, none] []) = _
  rw [hb, exCs_cons, s1, then_nx, exCs_cons, q, then_nx, q2, out_d]
end Rf
namespace Rf
open PySem PySem.Spec PyProof.Rows L2
def stAt (i : Nat) : Stmt := PySem.Challenge.pw_coverterms_k64_refusals.main.body.getD i (.Pass ⟨0, 0, 0, 0⟩)
def e__law_drawn : En := ⟨"_law_drawn", stAt 47, d__law_drawn, ⟨[Str.ofString "_law_script", Str.ofString "_law_k", Str.ofString "_law_many", Str.ofString "_law_cell", Str.ofString "_law_turn", Str.ofString "_law_rest"], [], [], [], ("", [])⟩, [Str.ofString "_law_script", Str.ofString "_law_k", Str.ofString "_law_many"]⟩
theorem k__law_drawn : dfB e__law_drawn = true := by decide +kernel
def e__law_raw : En := ⟨"_law_raw", stAt 48, d__law_raw, ⟨[Str.ofString "_law_script", Str.ofString "_law_at", Str.ofString "_law_most", Str.ofString "_law_lives", Str.ofString "_law_limit", Str.ofString "_law_terms", Str.ofString "_law_k", Str.ofString "_law_spot", Str.ofString "_law_days", Str.ofString "_law_kinds", Str.ofString "_law_renewal", Str.ofString "_law_claims", Str.ofString "_law_payer", Str.ofString "_law_sale"], ["_law_drawn"], [], [], ("", [])⟩, [Str.ofString "_law_script", Str.ofString "_law_at", Str.ofString "_law_most"]⟩
theorem k__law_raw : dfB e__law_raw = true := by decide +kernel
def e__law_state : En := ⟨"_law_state", stAt 54, d__law_state, ⟨[Str.ofString "_law_script", Str.ofString "_law_at", Str.ofString "_law_part", Str.ofString "_law_last", Str.ofString "_law_life", Str.ofString "_law_rows", Str.ofString "_law_k", Str.ofString "_law_term", Str.ofString "_law_claims"], ["_law_drawn"], [], [], ("", [])⟩, [Str.ofString "_law_script", Str.ofString "_law_at", Str.ofString "_law_part"]⟩
theorem k__law_state : dfB e__law_state = true := by decide +kernel
def e__law_after : En := ⟨"_law_after", stAt 50, d__law_after, ⟨[Str.ofString "_law_part", Str.ofString "_law_state_here", Str.ofString "_law_event", Str.ofString "_law_choice", Str.ofString "_law_age", Str.ofString "_law_rows", Str.ofString "_law_last", Str.ofString "_law_kind", Str.ofString "_law_least", Str.ofString "_law_found", Str.ofString "_law_number", Str.ofString "_law_term", Str.ofString "_law_left", Str.ofString "_law_claims"], [], [], [], ("", [])⟩, [Str.ofString "_law_part", Str.ofString "_law_state_here", Str.ofString "_law_event", Str.ofString "_law_choice"]⟩
theorem k__law_after : dfB e__law_after = true := by decide +kernel
def e__law_asked : En := ⟨"_law_asked", stAt 49, d__law_asked, ⟨[Str.ofString "_law_part", Str.ofString "_law_state_here", Str.ofString "_law_kind", Str.ofString "_law_found", Str.ofString "_law_number", Str.ofString "_law_term", Str.ofString "_law_left", Str.ofString "_law_claims"], [], [], [], ("", [])⟩, [Str.ofString "_law_part", Str.ofString "_law_state_here", Str.ofString "_law_kind"]⟩
theorem k__law_asked : dfB e__law_asked = true := by decide +kernel
def e_is_tuple : En := ⟨"is_tuple", stAt 12, d_is_tuple, ⟨[Str.ofString "candidate", Str.ofString "least", Str.ofString "greatest"], [], [], [], ("", [])⟩, [Str.ofString "candidate", Str.ofString "least", Str.ofString "greatest"]⟩
theorem k_is_tuple : dfB e_is_tuple = true := by decide +kernel
def e_is_word : En := ⟨"is_word", stAt 15, d_is_word, ⟨[Str.ofString "candidate", Str.ofString "letter"], [], [("LONGEST_WORD", g_LONGEST_WORD), ("LETTERS", g_LETTERS)], [], ("", [])⟩, [Str.ofString "candidate"]⟩
theorem k_is_word : dfB e_is_word = true := by decide +kernel
def e_is_number : En := ⟨"is_number", stAt 10, d_is_number, ⟨[Str.ofString "candidate", Str.ofString "least", Str.ofString "greatest"], [], [], [], ("", [])⟩, [Str.ofString "candidate", Str.ofString "least", Str.ofString "greatest"]⟩
theorem k_is_number : dfB e_is_number = true := by decide +kernel
def e_is_kinds : En := ⟨"is_kinds", stAt 14, d_is_kinds, ⟨[Str.ofString "candidate", Str.ofString "kind"], [], [("KINDS", g_KINDS)], [], ("", [])⟩, [Str.ofString "candidate"]⟩
theorem k_is_kinds : dfB e_is_kinds = true := by decide +kernel
def e_is_term : En := ⟨"is_term", stAt 18, d_is_term, ⟨[Str.ofString "candidate", Str.ofString "payer", Str.ofString "days", Str.ofString "kinds", Str.ofString "renewal", Str.ofString "claims", Str.ofString "sale"], ["is_tuple", "is_word", "is_number", "is_kinds"], [("RENEWALS", g_RENEWALS)], [], ("", [])⟩, [Str.ofString "candidate"]⟩
theorem k_is_term : dfB e_is_term = true := by decide +kernel
def e_is_terms : En := ⟨"is_terms", stAt 23, d_is_terms, ⟨[Str.ofString "candidate", Str.ofString "term"], ["is_tuple", "is_term"], [], [], ("", [])⟩, [Str.ofString "candidate"]⟩
theorem k_is_terms : dfB e_is_terms = true := by decide +kernel
def e_is_kind : En := ⟨"is_kind", stAt 13, d_is_kind, ⟨[Str.ofString "candidate"], [], [("KINDS", g_KINDS)], [], ("", [])⟩, [Str.ofString "candidate"]⟩
theorem k_is_kind : dfB e_is_kind = true := by decide +kernel
def e_is_life : En := ⟨"is_life", stAt 21, d_is_life, ⟨[Str.ofString "candidate", Str.ofString "kind", Str.ofString "least"], ["is_tuple", "is_number", "is_kind"], [], [], ("", [])⟩, [Str.ofString "candidate"]⟩
theorem k_is_life : dfB e_is_life = true := by decide +kernel
def e_is_lives : En := ⟨"is_lives", stAt 20, d_is_lives, ⟨[Str.ofString "candidate", Str.ofString "life", Str.ofString "kind", Str.ofString "least"], ["is_tuple", "is_life", "is_kinds"], [], [], ("", [])⟩, [Str.ofString "candidate"]⟩
theorem k_is_lives : dfB e_is_lives = true := by decide +kernel
def e_is_most : En := ⟨"is_most", stAt 22, d_is_most, ⟨[Str.ofString "candidate", Str.ofString "lives", Str.ofString "lowest", Str.ofString "kind", Str.ofString "least"], ["is_number"], [], [], ("", [])⟩, [Str.ofString "candidate", Str.ofString "lives"]⟩
theorem k_is_most : dfB e_is_most = true := by decide +kernel
def e_is_part : En := ⟨"is_part", stAt 19, d_is_part, ⟨[Str.ofString "candidate", Str.ofString "price", Str.ofString "lives", Str.ofString "most", Str.ofString "terms"], ["is_tuple", "is_terms", "is_number", "is_lives", "is_most"], [], [], ("", [])⟩, [Str.ofString "candidate"]⟩
theorem k_is_part : dfB e_is_part = true := by decide +kernel
def e_check_part : En := ⟨"check_part", stAt 24, d_check_part, ⟨[Str.ofString "part"], ["is_part"], [], ["InvalidPart"], ("", [])⟩, [Str.ofString "part"]⟩
theorem k_check_part : dfB e_check_part = true := by decide +kernel
def e_is_row : En := ⟨"is_row", stAt 36, d_is_row, ⟨[Str.ofString "term", Str.ofString "candidate", Str.ofString "payer", Str.ofString "days", Str.ofString "kinds", Str.ofString "renewal", Str.ofString "claims", Str.ofString "sale", Str.ofString "left", Str.ofString "claims_left"], ["is_tuple", "is_number"], [("UNLIMITED", g_UNLIMITED)], [], ("", [])⟩, [Str.ofString "term", Str.ofString "candidate"]⟩
theorem k_is_row : dfB e_is_row = true := by decide +kernel
def e_is_rows : En := ⟨"is_rows", stAt 35, d_is_rows, ⟨[Str.ofString "part", Str.ofString "candidate", Str.ofString "price", Str.ofString "lives", Str.ofString "most", Str.ofString "terms", Str.ofString "term", Str.ofString "row"], ["is_tuple", "is_row"], [], [], ("", [])⟩, [Str.ofString "part", Str.ofString "candidate"]⟩
theorem k_is_rows : dfB e_is_rows = true := by decide +kernel
def e_greatest_age : En := ⟨"greatest_age", stAt 28, d_greatest_age, ⟨[Str.ofString "part", Str.ofString "price", Str.ofString "lives", Str.ofString "most", Str.ofString "terms", Str.ofString "kind", Str.ofString "least"], [], [], [], ("", [])⟩, [Str.ofString "part"]⟩
theorem k_greatest_age : dfB e_greatest_age = true := by decide +kernel
def e_is_state : En := ⟨"is_state", stAt 34, d_is_state, ⟨[Str.ofString "part", Str.ofString "candidate", Str.ofString "age", Str.ofString "rows"], ["check_part", "is_tuple", "is_rows", "is_number", "greatest_age"], [], [], ("", [])⟩, [Str.ofString "part", Str.ofString "candidate"]⟩
theorem k_is_state : dfB e_is_state = true := by decide +kernel
def e_check_state : En := ⟨"check_state", stAt 37, d_check_state, ⟨[Str.ofString "part", Str.ofString "state"], ["is_state"], [], ["InvalidState"], ("", [])⟩, [Str.ofString "part", Str.ofString "state"]⟩
theorem k_check_state : dfB e_check_state = true := by decide +kernel
def e_can_be_asked : En := ⟨"can_be_asked", stAt 29, d_can_be_asked, ⟨[Str.ofString "term", Str.ofString "row", Str.ofString "kind", Str.ofString "payer", Str.ofString "days", Str.ofString "kinds", Str.ofString "renewal", Str.ofString "claims", Str.ofString "sale", Str.ofString "left", Str.ofString "claims_left"], [], [], [], ("", [])⟩, [Str.ofString "term", Str.ofString "row", Str.ofString "kind"]⟩
theorem k_can_be_asked : dfB e_can_be_asked = true := by decide +kernel
def e_askable : En := ⟨"askable", stAt 30, d_askable, ⟨[Str.ofString "part", Str.ofString "state", Str.ofString "kind", Str.ofString "price", Str.ofString "lives", Str.ofString "most", Str.ofString "terms", Str.ofString "age", Str.ofString "rows", Str.ofString "number", Str.ofString "term", Str.ofString "row"], ["can_be_asked"], [], [], ("", [])⟩, [Str.ofString "part", Str.ofString "state", Str.ofString "kind"]⟩
theorem k_askable : dfB e_askable = true := by decide +kernel
def e_uncovered : En := ⟨"uncovered", stAt 43, d_uncovered, ⟨[Str.ofString "part", Str.ofString "state", Str.ofString "price", Str.ofString "lives", Str.ofString "most", Str.ofString "terms", Str.ofString "kind", Str.ofString "least"], ["check_state", "askable"], [], [], ("", [])⟩, [Str.ofString "part", Str.ofString "state"]⟩
theorem k_uncovered : dfB e_uncovered = true := by decide +kernel
def e_covered : En := ⟨"covered", stAt 42, d_covered, ⟨[Str.ofString "part", Str.ofString "state", Str.ofString "price", Str.ofString "lives", Str.ofString "most", Str.ofString "terms", Str.ofString "kind", Str.ofString "least"], ["askable"], [], [], ("", [])⟩, [Str.ofString "part", Str.ofString "state"]⟩
theorem k_covered : dfB e_covered = true := by decide +kernel
def e_state_at_end_of_day : En := ⟨"state_at_end_of_day", stAt 31, d_state_at_end_of_day, ⟨[Str.ofString "part", Str.ofString "age", Str.ofString "rows", Str.ofString "aged", Str.ofString "left", Str.ofString "claims_left"], ["greatest_age"], [], [], ("", [])⟩, [Str.ofString "part", Str.ofString "age", Str.ofString "rows"]⟩
theorem k_state_at_end_of_day : dfB e_state_at_end_of_day = true := by decide +kernel
def e_state_after_quiet : En := ⟨"state_after_quiet", stAt 32, d_state_after_quiet, ⟨[Str.ofString "part", Str.ofString "state", Str.ofString "age", Str.ofString "rows"], ["state_at_end_of_day"], [], [], ("", [])⟩, [Str.ofString "part", Str.ofString "state"]⟩
theorem k_state_after_quiet : dfB e_state_after_quiet = true := by decide +kernel
def e_closing : En := ⟨"closing", stAt 44, d_closing, ⟨[Str.ofString "part", Str.ofString "state", Str.ofString "still", Str.ofString "kind"], ["check_state", "covered", "state_after_quiet"], [], [], ("", [])⟩, [Str.ofString "part", Str.ofString "state"]⟩
theorem k_closing : dfB e_closing = true := by decide +kernel
def e_check_kind : En := ⟨"check_kind", stAt 38, d_check_kind, ⟨[Str.ofString "kind"], ["is_kind"], [], ["InvalidKind"], ("", [])⟩, [Str.ofString "kind"]⟩
theorem k_check_kind : dfB e_check_kind = true := by decide +kernel
def e_days_open : En := ⟨"days_open", stAt 45, d_days_open, ⟨[Str.ofString "part", Str.ofString "state", Str.ofString "kind", Str.ofString "age", Str.ofString "rows", Str.ofString "number"], ["check_state", "check_kind", "askable"], [], [], ("", [])⟩, [Str.ofString "part", Str.ofString "state", Str.ofString "kind"]⟩
theorem k_days_open : dfB e_days_open = true := by decide +kernel
def e_check_number : En := ⟨"check_number", stAt 11, d_check_number, ⟨[Str.ofString "candidate", Str.ofString "least", Str.ofString "greatest"], ["is_number"], [], ["InvalidNumber"], ("", [])⟩, [Str.ofString "candidate", Str.ofString "least", Str.ofString "greatest"]⟩
theorem k_check_number : dfB e_check_number = true := by decide +kernel
def e_check_term_number : En := ⟨"check_term_number", stAt 25, d_check_term_number, ⟨[Str.ofString "part", Str.ofString "number", Str.ofString "price", Str.ofString "lives", Str.ofString "most", Str.ofString "terms"], ["check_number"], [], [], ("", [])⟩, [Str.ofString "part", Str.ofString "number"]⟩
theorem k_check_term_number : dfB e_check_term_number = true := by decide +kernel
def e_reasons : En := ⟨"reasons", stAt 41, d_reasons, ⟨[Str.ofString "part", Str.ofString "state", Str.ofString "number", Str.ofString "kind", Str.ofString "price", Str.ofString "lives", Str.ofString "most", Str.ofString "terms", Str.ofString "age", Str.ofString "rows", Str.ofString "payer", Str.ofString "days", Str.ofString "kinds", Str.ofString "renewal", Str.ofString "claims", Str.ofString "sale", Str.ofString "left", Str.ofString "claims_left", Str.ofString "found"], ["check_state", "check_term_number", "check_kind"], [], [], ("", [])⟩, [Str.ofString "part", Str.ofString "state", Str.ofString "number", Str.ofString "kind"]⟩
theorem k_reasons : dfB e_reasons = true := by decide +kernel
def e_asked : En := ⟨"asked", stAt 39, d_asked, ⟨[Str.ofString "part", Str.ofString "state", Str.ofString "kind"], ["check_state", "check_kind", "askable"], [], [], ("", [])⟩, [Str.ofString "part", Str.ofString "state", Str.ofString "kind"]⟩
theorem k_asked : dfB e_asked = true := by decide +kernel
def e__law_badpart : En := ⟨"_law_badpart", stAt 51, d__law_badpart, ⟨[Str.ofString "_law_script", Str.ofString "_law_at", Str.ofString "_law_lives", Str.ofString "_law_term", Str.ofString "_law_bad"], ["_law_drawn"], [], [], ("", [])⟩, [Str.ofString "_law_script", Str.ofString "_law_at"]⟩
theorem k__law_badpart : dfB e__law_badpart = true := by decide +kernel
def e__law_badstate : En := ⟨"_law_badstate", stAt 52, d__law_badstate, ⟨[Str.ofString "_law_script", Str.ofString "_law_at", Str.ofString "_law_part", Str.ofString "_law_rows", Str.ofString "_law_term", Str.ofString "_law_bad"], ["_law_drawn"], [], [], ("", [])⟩, [Str.ofString "_law_script", Str.ofString "_law_at", Str.ofString "_law_part"]⟩
theorem k__law_badstate : dfB e__law_badstate = true := by decide +kernel
def e__law_error : En := ⟨"_law_error", stAt 53, d__law_error, ⟨[Str.ofString "_law_way", Str.ofString "_law_one", Str.ofString "_law_two", Str.ofString "_law_three", Str.ofString "_law_four", Str.ofString "e", Str.ofString "_law_flags"], ["uncovered", "closing", "days_open", "reasons"], [], [], ("CoverError", ["InvalidPart", "InvalidState", "InvalidNumber", "InvalidKind"])⟩, [Str.ofString "_law_way", Str.ofString "_law_one", Str.ofString "_law_two", Str.ofString "_law_three", Str.ofString "_law_four"]⟩
theorem k__law_error : dfB e__law_error = true := by decide +kernel
def e_law : En := ⟨"law", stAt 55, d_law_k64, ⟨[Str.ofString "_law_script", Str.ofString "_law_part", Str.ofString "_law_k", Str.ofString "_law_state_here", Str.ofString "_law_kinds", Str.ofString "_law_later", Str.ofString "_law_life", Str.ofString "_law_open_now", Str.ofString "_law_kind", Str.ofString "_law_here", Str.ofString "_law_count", Str.ofString "_law_number", Str.ofString "_law_term", Str.ofString "_law_left", Str.ofString "_law_claims", Str.ofString "_law_due", Str.ofString "_law_odd", Str.ofString "_law_bad", Str.ofString "_law_told", Str.ofString "_law_way"], ["_law_raw", "_law_state", "_law_after", "_law_asked", "uncovered", "closing", "days_open", "reasons", "asked", "_law_badpart", "_law_badstate", "_law_drawn", "_law_error"], [], [], ("", [])⟩, [Str.ofString "_law_script"]⟩
theorem k_law : dfB e_law = true := by decide +kernel
end Rf
namespace Rf
open PySem PySem.Spec PyProof.Rows L2
def Ld : List En := [e__law_error, e__law_badstate, e__law_badpart, e_asked, e_reasons, e_check_term_number, e_check_number, e_days_open, e_check_kind, e_closing, e_state_after_quiet, e_state_at_end_of_day, e_covered, e_uncovered, e_askable, e_can_be_asked, e_check_state, e_is_state, e_greatest_age, e_is_rows, e_is_row, e_check_part, e_is_part, e_is_most, e_is_lives, e_is_life, e_is_kind, e_is_terms, e_is_term, e_is_kinds, e_is_number, e_is_word, e_is_tuple, e__law_asked, e__law_after, e__law_state, e__law_raw, e__law_drawn]
theorem cl_Ld : closed (e_law :: Ld) = true := by decide +kernel
theorem all_cons {α : Type} {P : α → Prop} {a : α} {l : List α} (h : P a) (t : ∀ x ∈ l, P x) : ∀ x ∈ a :: l, P x := fun x hx => by
  rcases List.mem_cons.mp hx with rfl | hx
  · exact h
  · exact t x hx
theorem all_mk {P : Program} {w : World} {K : PySem.W.Frag} {h : Heap} {mg : Str → Option Value} {fa f0 f1 f2 f3 f4 f5 f6 f7 f8 f9 f10 f11 f12 f13 f14 f15 f16 f17 f18 f19 f20 f21 f22 f23 f24 f25 f26 f27 f28 f29 f30 f31 f32 f33 f34 f35 f36 f37 f38 t0 t3 x0 x1 x2 x3 y0 y1 y2 y3 y4 : Addr}
    {od0 an0 od1 an1 od2 an2 od3 an3 od4 an4 od5 an5 od6 an6 od7 an7 od8 an8 od9 an9 od10 an10 od11 an11 od12 an12 od13 an13 od14 an14 od15 an15 od16 an16 od17 an17 od18 an18 od19 an19 od20 an20 od21 an21 od22 an22 od23 an23 od24 an24 od25 an25 od26 an26 od27 an27 od28 an28 od29 an29 od30 an30 od31 an31 od32 an32 od33 an33 od34 an34 od35 an35 od36 an36 od37 an37 od38 an38 : Option Addr} {sl0 sl1 sl2 sl3 sl4 sl5 sl6 sl7 sl8 sl9 sl10 sl11 sl12 sl13 sl14 sl15 sl16 sl17 sl18 sl19 sl20 sl21 sl22 sl23 sl24 sl25 sl26 sl27 sl28 sl29 sl30 sl31 sl32 sl33 sl34 sl35 sl36 sl37 sl38 : Array (Option Value)} {oc0 kV0 dc0 pm0 cd0 ct0 oc1 kV1 dc1 pm1 cd1 ct1 oc2 kV2 dc2 pm2 cd2 ct2 oc3 kV3 dc3 pm3 cd3 ct3 oc4 kV4 dc4 pm4 cd4 ct4 oc5 kV5 dc5 pm5 cd5 ct5 oc6 kV6 dc6 pm6 cd6 ct6 oc7 kV7 dc7 pm7 cd7 ct7 oc8 kV8 dc8 pm8 cd8 ct8 oc9 kV9 dc9 pm9 cd9 ct9 oc10 kV10 dc10 pm10 cd10 ct10 oc11 kV11 dc11 pm11 cd11 ct11 oc12 kV12 dc12 pm12 cd12 ct12 oc13 kV13 dc13 pm13 cd13 ct13 oc14 kV14 dc14 pm14 cd14 ct14 oc15 kV15 dc15 pm15 cd15 ct15 oc16 kV16 dc16 pm16 cd16 ct16 oc17 kV17 dc17 pm17 cd17 ct17 oc18 kV18 dc18 pm18 cd18 ct18 oc19 kV19 dc19 pm19 cd19 ct19 oc20 kV20 dc20 pm20 cd20 ct20 oc21 kV21 dc21 pm21 cd21 ct21 oc22 kV22 dc22 pm22 cd22 ct22 oc23 kV23 dc23 pm23 cd23 ct23 oc24 kV24 dc24 pm24 cd24 ct24 oc25 kV25 dc25 pm25 cd25 ct25 oc26 kV26 dc26 pm26 cd26 ct26 oc27 kV27 dc27 pm27 cd27 ct27 oc28 kV28 dc28 pm28 cd28 ct28 oc29 kV29 dc29 pm29 cd29 ct29 oc30 kV30 dc30 pm30 cd30 ct30 oc31 kV31 dc31 pm31 cd31 ct31 oc32 kV32 dc32 pm32 cd32 ct32 oc33 kV33 dc33 pm33 cd33 ct33 oc34 kV34 dc34 pm34 cd34 ct34 oc35 kV35 dc35 pm35 cd35 ct35 oc36 kV36 dc36 pm36 cd36 ct36 oc37 kV37 dc37 pm37 cd37 ct37 oc38 kV38 dc38 pm38 cd38 ct38 : Value} {vd0 : Option Addr} {vn0 : Nat} {vs0 : Array (Option Value)} {tt0_0 tt0_1 tt0_2 : Tok} {vt1 : Tok} {vt2 : Tok} {vd3 : Option Addr} {vn3 : Nat} {vs3 : Array (Option Value)} {tt3_0 tt3_1 : Tok} {vt4 : Tok}
    (X : K.In h) (G : h.Ns mainGlobals mg) (hfa : mg "law" = some (.ref fa)) (fu : Nat) (hl : ∀ ns : List Int, ns.length ≤ 63 → orc fu (tabl (e_law :: Ld)) e_law.f [.d (.list (ns.map .int))] [] = .d (.bool true))
    (a0 : PySem.W.nsIn K mainGlobals "_law_drawn" = some (some (.ref f0)))
    (l0 : K.lookup f0 = some ⟨oc0, od0, .func (PySem.W.fnOf "_law_drawn" "_law_drawn" (defArgs (stAt 47)) (defBody (stAt 47)) (defScope (stAt 47)) .none kV0 dc0 pm0 an0 cd0 ct0), sl0⟩)
    (c0 : PySem.W.codeIn K cd0 "_law_drawn" = true)
    (k0 : PySem.W.keepIn K (.ref f0) = true)
    (a1 : PySem.W.nsIn K mainGlobals "_law_raw" = some (some (.ref f1)))
    (l1 : K.lookup f1 = some ⟨oc1, od1, .func (PySem.W.fnOf "_law_raw" "_law_raw" (defArgs (stAt 48)) (defBody (stAt 48)) (defScope (stAt 48)) .none kV1 dc1 pm1 an1 cd1 ct1), sl1⟩)
    (c1 : PySem.W.codeIn K cd1 "_law_raw" = true)
    (k1 : PySem.W.keepIn K (.ref f1) = true)
    (a2 : PySem.W.nsIn K mainGlobals "_law_state" = some (some (.ref f2)))
    (l2 : K.lookup f2 = some ⟨oc2, od2, .func (PySem.W.fnOf "_law_state" "_law_state" (defArgs (stAt 54)) (defBody (stAt 54)) (defScope (stAt 54)) .none kV2 dc2 pm2 an2 cd2 ct2), sl2⟩)
    (c2 : PySem.W.codeIn K cd2 "_law_state" = true)
    (k2 : PySem.W.keepIn K (.ref f2) = true)
    (a3 : PySem.W.nsIn K mainGlobals "_law_after" = some (some (.ref f3)))
    (l3 : K.lookup f3 = some ⟨oc3, od3, .func (PySem.W.fnOf "_law_after" "_law_after" (defArgs (stAt 50)) (defBody (stAt 50)) (defScope (stAt 50)) .none kV3 dc3 pm3 an3 cd3 ct3), sl3⟩)
    (c3 : PySem.W.codeIn K cd3 "_law_after" = true)
    (k3 : PySem.W.keepIn K (.ref f3) = true)
    (a4 : PySem.W.nsIn K mainGlobals "_law_asked" = some (some (.ref f4)))
    (l4 : K.lookup f4 = some ⟨oc4, od4, .func (PySem.W.fnOf "_law_asked" "_law_asked" (defArgs (stAt 49)) (defBody (stAt 49)) (defScope (stAt 49)) .none kV4 dc4 pm4 an4 cd4 ct4), sl4⟩)
    (c4 : PySem.W.codeIn K cd4 "_law_asked" = true)
    (k4 : PySem.W.keepIn K (.ref f4) = true)
    (a5 : PySem.W.nsIn K mainGlobals "is_tuple" = some (some (.ref f5)))
    (l5 : K.lookup f5 = some ⟨oc5, od5, .func (PySem.W.fnOf "is_tuple" "is_tuple" (defArgs (stAt 12)) (defBody (stAt 12)) (defScope (stAt 12)) .none kV5 dc5 pm5 an5 cd5 ct5), sl5⟩)
    (c5 : PySem.W.codeIn K cd5 "is_tuple" = true)
    (k5 : PySem.W.keepIn K (.ref f5) = true)
    (a6 : PySem.W.nsIn K mainGlobals "is_word" = some (some (.ref f6)))
    (l6 : K.lookup f6 = some ⟨oc6, od6, .func (PySem.W.fnOf "is_word" "is_word" (defArgs (stAt 15)) (defBody (stAt 15)) (defScope (stAt 15)) .none kV6 dc6 pm6 an6 cd6 ct6), sl6⟩)
    (c6 : PySem.W.codeIn K cd6 "is_word" = true)
    (k6 : PySem.W.keepIn K (.ref f6) = true)
    (a7 : PySem.W.nsIn K mainGlobals "is_number" = some (some (.ref f7)))
    (l7 : K.lookup f7 = some ⟨oc7, od7, .func (PySem.W.fnOf "is_number" "is_number" (defArgs (stAt 10)) (defBody (stAt 10)) (defScope (stAt 10)) .none kV7 dc7 pm7 an7 cd7 ct7), sl7⟩)
    (c7 : PySem.W.codeIn K cd7 "is_number" = true)
    (k7 : PySem.W.keepIn K (.ref f7) = true)
    (a8 : PySem.W.nsIn K mainGlobals "is_kinds" = some (some (.ref f8)))
    (l8 : K.lookup f8 = some ⟨oc8, od8, .func (PySem.W.fnOf "is_kinds" "is_kinds" (defArgs (stAt 14)) (defBody (stAt 14)) (defScope (stAt 14)) .none kV8 dc8 pm8 an8 cd8 ct8), sl8⟩)
    (c8 : PySem.W.codeIn K cd8 "is_kinds" = true)
    (k8 : PySem.W.keepIn K (.ref f8) = true)
    (a9 : PySem.W.nsIn K mainGlobals "is_term" = some (some (.ref f9)))
    (l9 : K.lookup f9 = some ⟨oc9, od9, .func (PySem.W.fnOf "is_term" "is_term" (defArgs (stAt 18)) (defBody (stAt 18)) (defScope (stAt 18)) .none kV9 dc9 pm9 an9 cd9 ct9), sl9⟩)
    (c9 : PySem.W.codeIn K cd9 "is_term" = true)
    (k9 : PySem.W.keepIn K (.ref f9) = true)
    (a10 : PySem.W.nsIn K mainGlobals "is_terms" = some (some (.ref f10)))
    (l10 : K.lookup f10 = some ⟨oc10, od10, .func (PySem.W.fnOf "is_terms" "is_terms" (defArgs (stAt 23)) (defBody (stAt 23)) (defScope (stAt 23)) .none kV10 dc10 pm10 an10 cd10 ct10), sl10⟩)
    (c10 : PySem.W.codeIn K cd10 "is_terms" = true)
    (k10 : PySem.W.keepIn K (.ref f10) = true)
    (a11 : PySem.W.nsIn K mainGlobals "is_kind" = some (some (.ref f11)))
    (l11 : K.lookup f11 = some ⟨oc11, od11, .func (PySem.W.fnOf "is_kind" "is_kind" (defArgs (stAt 13)) (defBody (stAt 13)) (defScope (stAt 13)) .none kV11 dc11 pm11 an11 cd11 ct11), sl11⟩)
    (c11 : PySem.W.codeIn K cd11 "is_kind" = true)
    (k11 : PySem.W.keepIn K (.ref f11) = true)
    (a12 : PySem.W.nsIn K mainGlobals "is_life" = some (some (.ref f12)))
    (l12 : K.lookup f12 = some ⟨oc12, od12, .func (PySem.W.fnOf "is_life" "is_life" (defArgs (stAt 21)) (defBody (stAt 21)) (defScope (stAt 21)) .none kV12 dc12 pm12 an12 cd12 ct12), sl12⟩)
    (c12 : PySem.W.codeIn K cd12 "is_life" = true)
    (k12 : PySem.W.keepIn K (.ref f12) = true)
    (a13 : PySem.W.nsIn K mainGlobals "is_lives" = some (some (.ref f13)))
    (l13 : K.lookup f13 = some ⟨oc13, od13, .func (PySem.W.fnOf "is_lives" "is_lives" (defArgs (stAt 20)) (defBody (stAt 20)) (defScope (stAt 20)) .none kV13 dc13 pm13 an13 cd13 ct13), sl13⟩)
    (c13 : PySem.W.codeIn K cd13 "is_lives" = true)
    (k13 : PySem.W.keepIn K (.ref f13) = true)
    (a14 : PySem.W.nsIn K mainGlobals "is_most" = some (some (.ref f14)))
    (l14 : K.lookup f14 = some ⟨oc14, od14, .func (PySem.W.fnOf "is_most" "is_most" (defArgs (stAt 22)) (defBody (stAt 22)) (defScope (stAt 22)) .none kV14 dc14 pm14 an14 cd14 ct14), sl14⟩)
    (c14 : PySem.W.codeIn K cd14 "is_most" = true)
    (k14 : PySem.W.keepIn K (.ref f14) = true)
    (a15 : PySem.W.nsIn K mainGlobals "is_part" = some (some (.ref f15)))
    (l15 : K.lookup f15 = some ⟨oc15, od15, .func (PySem.W.fnOf "is_part" "is_part" (defArgs (stAt 19)) (defBody (stAt 19)) (defScope (stAt 19)) .none kV15 dc15 pm15 an15 cd15 ct15), sl15⟩)
    (c15 : PySem.W.codeIn K cd15 "is_part" = true)
    (k15 : PySem.W.keepIn K (.ref f15) = true)
    (a16 : PySem.W.nsIn K mainGlobals "check_part" = some (some (.ref f16)))
    (l16 : K.lookup f16 = some ⟨oc16, od16, .func (PySem.W.fnOf "check_part" "check_part" (defArgs (stAt 24)) (defBody (stAt 24)) (defScope (stAt 24)) .none kV16 dc16 pm16 an16 cd16 ct16), sl16⟩)
    (c16 : PySem.W.codeIn K cd16 "check_part" = true)
    (k16 : PySem.W.keepIn K (.ref f16) = true)
    (a17 : PySem.W.nsIn K mainGlobals "is_row" = some (some (.ref f17)))
    (l17 : K.lookup f17 = some ⟨oc17, od17, .func (PySem.W.fnOf "is_row" "is_row" (defArgs (stAt 36)) (defBody (stAt 36)) (defScope (stAt 36)) .none kV17 dc17 pm17 an17 cd17 ct17), sl17⟩)
    (c17 : PySem.W.codeIn K cd17 "is_row" = true)
    (k17 : PySem.W.keepIn K (.ref f17) = true)
    (a18 : PySem.W.nsIn K mainGlobals "is_rows" = some (some (.ref f18)))
    (l18 : K.lookup f18 = some ⟨oc18, od18, .func (PySem.W.fnOf "is_rows" "is_rows" (defArgs (stAt 35)) (defBody (stAt 35)) (defScope (stAt 35)) .none kV18 dc18 pm18 an18 cd18 ct18), sl18⟩)
    (c18 : PySem.W.codeIn K cd18 "is_rows" = true)
    (k18 : PySem.W.keepIn K (.ref f18) = true)
    (a19 : PySem.W.nsIn K mainGlobals "greatest_age" = some (some (.ref f19)))
    (l19 : K.lookup f19 = some ⟨oc19, od19, .func (PySem.W.fnOf "greatest_age" "greatest_age" (defArgs (stAt 28)) (defBody (stAt 28)) (defScope (stAt 28)) .none kV19 dc19 pm19 an19 cd19 ct19), sl19⟩)
    (c19 : PySem.W.codeIn K cd19 "greatest_age" = true)
    (k19 : PySem.W.keepIn K (.ref f19) = true)
    (a20 : PySem.W.nsIn K mainGlobals "is_state" = some (some (.ref f20)))
    (l20 : K.lookup f20 = some ⟨oc20, od20, .func (PySem.W.fnOf "is_state" "is_state" (defArgs (stAt 34)) (defBody (stAt 34)) (defScope (stAt 34)) .none kV20 dc20 pm20 an20 cd20 ct20), sl20⟩)
    (c20 : PySem.W.codeIn K cd20 "is_state" = true)
    (k20 : PySem.W.keepIn K (.ref f20) = true)
    (a21 : PySem.W.nsIn K mainGlobals "check_state" = some (some (.ref f21)))
    (l21 : K.lookup f21 = some ⟨oc21, od21, .func (PySem.W.fnOf "check_state" "check_state" (defArgs (stAt 37)) (defBody (stAt 37)) (defScope (stAt 37)) .none kV21 dc21 pm21 an21 cd21 ct21), sl21⟩)
    (c21 : PySem.W.codeIn K cd21 "check_state" = true)
    (k21 : PySem.W.keepIn K (.ref f21) = true)
    (a22 : PySem.W.nsIn K mainGlobals "can_be_asked" = some (some (.ref f22)))
    (l22 : K.lookup f22 = some ⟨oc22, od22, .func (PySem.W.fnOf "can_be_asked" "can_be_asked" (defArgs (stAt 29)) (defBody (stAt 29)) (defScope (stAt 29)) .none kV22 dc22 pm22 an22 cd22 ct22), sl22⟩)
    (c22 : PySem.W.codeIn K cd22 "can_be_asked" = true)
    (k22 : PySem.W.keepIn K (.ref f22) = true)
    (a23 : PySem.W.nsIn K mainGlobals "askable" = some (some (.ref f23)))
    (l23 : K.lookup f23 = some ⟨oc23, od23, .func (PySem.W.fnOf "askable" "askable" (defArgs (stAt 30)) (defBody (stAt 30)) (defScope (stAt 30)) .none kV23 dc23 pm23 an23 cd23 ct23), sl23⟩)
    (c23 : PySem.W.codeIn K cd23 "askable" = true)
    (k23 : PySem.W.keepIn K (.ref f23) = true)
    (a24 : PySem.W.nsIn K mainGlobals "uncovered" = some (some (.ref f24)))
    (l24 : K.lookup f24 = some ⟨oc24, od24, .func (PySem.W.fnOf "uncovered" "uncovered" (defArgs (stAt 43)) (defBody (stAt 43)) (defScope (stAt 43)) .none kV24 dc24 pm24 an24 cd24 ct24), sl24⟩)
    (c24 : PySem.W.codeIn K cd24 "uncovered" = true)
    (k24 : PySem.W.keepIn K (.ref f24) = true)
    (a25 : PySem.W.nsIn K mainGlobals "covered" = some (some (.ref f25)))
    (l25 : K.lookup f25 = some ⟨oc25, od25, .func (PySem.W.fnOf "covered" "covered" (defArgs (stAt 42)) (defBody (stAt 42)) (defScope (stAt 42)) .none kV25 dc25 pm25 an25 cd25 ct25), sl25⟩)
    (c25 : PySem.W.codeIn K cd25 "covered" = true)
    (k25 : PySem.W.keepIn K (.ref f25) = true)
    (a26 : PySem.W.nsIn K mainGlobals "state_at_end_of_day" = some (some (.ref f26)))
    (l26 : K.lookup f26 = some ⟨oc26, od26, .func (PySem.W.fnOf "state_at_end_of_day" "state_at_end_of_day" (defArgs (stAt 31)) (defBody (stAt 31)) (defScope (stAt 31)) .none kV26 dc26 pm26 an26 cd26 ct26), sl26⟩)
    (c26 : PySem.W.codeIn K cd26 "state_at_end_of_day" = true)
    (k26 : PySem.W.keepIn K (.ref f26) = true)
    (a27 : PySem.W.nsIn K mainGlobals "state_after_quiet" = some (some (.ref f27)))
    (l27 : K.lookup f27 = some ⟨oc27, od27, .func (PySem.W.fnOf "state_after_quiet" "state_after_quiet" (defArgs (stAt 32)) (defBody (stAt 32)) (defScope (stAt 32)) .none kV27 dc27 pm27 an27 cd27 ct27), sl27⟩)
    (c27 : PySem.W.codeIn K cd27 "state_after_quiet" = true)
    (k27 : PySem.W.keepIn K (.ref f27) = true)
    (a28 : PySem.W.nsIn K mainGlobals "closing" = some (some (.ref f28)))
    (l28 : K.lookup f28 = some ⟨oc28, od28, .func (PySem.W.fnOf "closing" "closing" (defArgs (stAt 44)) (defBody (stAt 44)) (defScope (stAt 44)) .none kV28 dc28 pm28 an28 cd28 ct28), sl28⟩)
    (c28 : PySem.W.codeIn K cd28 "closing" = true)
    (k28 : PySem.W.keepIn K (.ref f28) = true)
    (a29 : PySem.W.nsIn K mainGlobals "check_kind" = some (some (.ref f29)))
    (l29 : K.lookup f29 = some ⟨oc29, od29, .func (PySem.W.fnOf "check_kind" "check_kind" (defArgs (stAt 38)) (defBody (stAt 38)) (defScope (stAt 38)) .none kV29 dc29 pm29 an29 cd29 ct29), sl29⟩)
    (c29 : PySem.W.codeIn K cd29 "check_kind" = true)
    (k29 : PySem.W.keepIn K (.ref f29) = true)
    (a30 : PySem.W.nsIn K mainGlobals "days_open" = some (some (.ref f30)))
    (l30 : K.lookup f30 = some ⟨oc30, od30, .func (PySem.W.fnOf "days_open" "days_open" (defArgs (stAt 45)) (defBody (stAt 45)) (defScope (stAt 45)) .none kV30 dc30 pm30 an30 cd30 ct30), sl30⟩)
    (c30 : PySem.W.codeIn K cd30 "days_open" = true)
    (k30 : PySem.W.keepIn K (.ref f30) = true)
    (a31 : PySem.W.nsIn K mainGlobals "check_number" = some (some (.ref f31)))
    (l31 : K.lookup f31 = some ⟨oc31, od31, .func (PySem.W.fnOf "check_number" "check_number" (defArgs (stAt 11)) (defBody (stAt 11)) (defScope (stAt 11)) .none kV31 dc31 pm31 an31 cd31 ct31), sl31⟩)
    (c31 : PySem.W.codeIn K cd31 "check_number" = true)
    (k31 : PySem.W.keepIn K (.ref f31) = true)
    (a32 : PySem.W.nsIn K mainGlobals "check_term_number" = some (some (.ref f32)))
    (l32 : K.lookup f32 = some ⟨oc32, od32, .func (PySem.W.fnOf "check_term_number" "check_term_number" (defArgs (stAt 25)) (defBody (stAt 25)) (defScope (stAt 25)) .none kV32 dc32 pm32 an32 cd32 ct32), sl32⟩)
    (c32 : PySem.W.codeIn K cd32 "check_term_number" = true)
    (k32 : PySem.W.keepIn K (.ref f32) = true)
    (a33 : PySem.W.nsIn K mainGlobals "reasons" = some (some (.ref f33)))
    (l33 : K.lookup f33 = some ⟨oc33, od33, .func (PySem.W.fnOf "reasons" "reasons" (defArgs (stAt 41)) (defBody (stAt 41)) (defScope (stAt 41)) .none kV33 dc33 pm33 an33 cd33 ct33), sl33⟩)
    (c33 : PySem.W.codeIn K cd33 "reasons" = true)
    (k33 : PySem.W.keepIn K (.ref f33) = true)
    (a34 : PySem.W.nsIn K mainGlobals "asked" = some (some (.ref f34)))
    (l34 : K.lookup f34 = some ⟨oc34, od34, .func (PySem.W.fnOf "asked" "asked" (defArgs (stAt 39)) (defBody (stAt 39)) (defScope (stAt 39)) .none kV34 dc34 pm34 an34 cd34 ct34), sl34⟩)
    (c34 : PySem.W.codeIn K cd34 "asked" = true)
    (k34 : PySem.W.keepIn K (.ref f34) = true)
    (a35 : PySem.W.nsIn K mainGlobals "_law_badpart" = some (some (.ref f35)))
    (l35 : K.lookup f35 = some ⟨oc35, od35, .func (PySem.W.fnOf "_law_badpart" "_law_badpart" (defArgs (stAt 51)) (defBody (stAt 51)) (defScope (stAt 51)) .none kV35 dc35 pm35 an35 cd35 ct35), sl35⟩)
    (c35 : PySem.W.codeIn K cd35 "_law_badpart" = true)
    (k35 : PySem.W.keepIn K (.ref f35) = true)
    (a36 : PySem.W.nsIn K mainGlobals "_law_badstate" = some (some (.ref f36)))
    (l36 : K.lookup f36 = some ⟨oc36, od36, .func (PySem.W.fnOf "_law_badstate" "_law_badstate" (defArgs (stAt 52)) (defBody (stAt 52)) (defScope (stAt 52)) .none kV36 dc36 pm36 an36 cd36 ct36), sl36⟩)
    (c36 : PySem.W.codeIn K cd36 "_law_badstate" = true)
    (k36 : PySem.W.keepIn K (.ref f36) = true)
    (a37 : PySem.W.nsIn K mainGlobals "_law_error" = some (some (.ref f37)))
    (l37 : K.lookup f37 = some ⟨oc37, od37, .func (PySem.W.fnOf "_law_error" "_law_error" (defArgs (stAt 53)) (defBody (stAt 53)) (defScope (stAt 53)) .none kV37 dc37 pm37 an37 cd37 ct37), sl37⟩)
    (c37 : PySem.W.codeIn K cd37 "_law_error" = true)
    (k37 : PySem.W.keepIn K (.ref f37) = true)
    (a38 : PySem.W.nsIn K mainGlobals "law" = some (some (.ref f38)))
    (l38 : K.lookup f38 = some ⟨oc38, od38, .func (PySem.W.fnOf "law" "law" (defArgs (stAt 55)) (defBody (stAt 55)) (defScope (stAt 55)) .none kV38 dc38 pm38 an38 cd38 ct38), sl38⟩)
    (c38 : PySem.W.codeIn K cd38 "law" = true)
    (k38 : PySem.W.keepIn K (.ref f38) = true)
    (v0 : PySem.W.nsIn K mainGlobals "KINDS" = some (some (.ref t0)))
    (w0 : K.lookup t0 = some ⟨.type "tuple", vd0, .seq #[.str "a" tt0_0, .str "b" tt0_1, .str "c" tt0_2] vn0, vs0⟩)
    (v1 : PySem.W.nsIn K mainGlobals "LETTERS" = some (some (.str "abcdefghijklmnopqrstuvwxyz" vt1)))
    (v2 : PySem.W.nsIn K mainGlobals "LONGEST_WORD" = some (some (.int (6) vt2)))
    (v3 : PySem.W.nsIn K mainGlobals "RENEWALS" = some (some (.ref t3)))
    (w3 : K.lookup t3 = some ⟨.type "tuple", vd3, .seq #[.str "anew" tt3_0, .str "rest" tt3_1] vn3, vs3⟩)
    (v4 : PySem.W.nsIn K mainGlobals "UNLIMITED" = some (some (.int (-1) vt4)))
    (xa0 : PySem.W.nsIn K mainGlobals "InvalidKind" = some (some (.ref x0)))
    (xe0 : PySem.W.excIn K x0 PySem.HandSPX.veTail "ValueError.__new__" = true)
    (xk0 : PySem.W.keepIn K (.ref x0) = true)
    (xs0 : PySem.W.subIn K (.ref x0) (.type "BaseException") = some true)
    (xt0 : PySem.W.typeIn K (.ref x0) = some (.type "type"))
    (xa1 : PySem.W.nsIn K mainGlobals "InvalidNumber" = some (some (.ref x1)))
    (xe1 : PySem.W.excIn K x1 PySem.HandSPX.veTail "ValueError.__new__" = true)
    (xk1 : PySem.W.keepIn K (.ref x1) = true)
    (xs1 : PySem.W.subIn K (.ref x1) (.type "BaseException") = some true)
    (xt1 : PySem.W.typeIn K (.ref x1) = some (.type "type"))
    (xa2 : PySem.W.nsIn K mainGlobals "InvalidPart" = some (some (.ref x2)))
    (xe2 : PySem.W.excIn K x2 PySem.HandSPX.veTail "ValueError.__new__" = true)
    (xk2 : PySem.W.keepIn K (.ref x2) = true)
    (xs2 : PySem.W.subIn K (.ref x2) (.type "BaseException") = some true)
    (xt2 : PySem.W.typeIn K (.ref x2) = some (.type "type"))
    (xa3 : PySem.W.nsIn K mainGlobals "InvalidState" = some (some (.ref x3)))
    (xe3 : PySem.W.excIn K x3 PySem.HandSPX.veTail "ValueError.__new__" = true)
    (xk3 : PySem.W.keepIn K (.ref x3) = true)
    (xs3 : PySem.W.subIn K (.ref x3) (.type "BaseException") = some true)
    (xt3 : PySem.W.typeIn K (.ref x3) = some (.type "type"))
    (ha0 : PySem.W.nsIn K mainGlobals "InvalidKind" = some (some (.ref y0)))
    (hg0 : PySem.W.findIn K (.ref y0) "__getattribute__" = some (some (.builtin "BaseException.__getattribute__")))
    (hk0 : PySem.W.findIn K (.ref y0) "__getattr__" = some none)
    (hs0 : PySem.W.subIn K (.ref y0) (.type "BaseException") = some true)
    (hd0 : PySem.W.hasDictIn K y0 = true)
    (hc0 : PySem.W.findIn K (.ref y0) "__class__" = some (some (.builtin "object.__class__")))
    (hm0 : PySem.W.mroIn K y0 (.type "object") = some true)
    (ht0 : PySem.W.typeIn K (.ref y0) = some (.type "type"))
    (ha1 : PySem.W.nsIn K mainGlobals "InvalidNumber" = some (some (.ref y1)))
    (hg1 : PySem.W.findIn K (.ref y1) "__getattribute__" = some (some (.builtin "BaseException.__getattribute__")))
    (hk1 : PySem.W.findIn K (.ref y1) "__getattr__" = some none)
    (hs1 : PySem.W.subIn K (.ref y1) (.type "BaseException") = some true)
    (hd1 : PySem.W.hasDictIn K y1 = true)
    (hc1 : PySem.W.findIn K (.ref y1) "__class__" = some (some (.builtin "object.__class__")))
    (hm1 : PySem.W.mroIn K y1 (.type "object") = some true)
    (ht1 : PySem.W.typeIn K (.ref y1) = some (.type "type"))
    (ha2 : PySem.W.nsIn K mainGlobals "InvalidPart" = some (some (.ref y2)))
    (hg2 : PySem.W.findIn K (.ref y2) "__getattribute__" = some (some (.builtin "BaseException.__getattribute__")))
    (hk2 : PySem.W.findIn K (.ref y2) "__getattr__" = some none)
    (hs2 : PySem.W.subIn K (.ref y2) (.type "BaseException") = some true)
    (hd2 : PySem.W.hasDictIn K y2 = true)
    (hc2 : PySem.W.findIn K (.ref y2) "__class__" = some (some (.builtin "object.__class__")))
    (hm2 : PySem.W.mroIn K y2 (.type "object") = some true)
    (ht2 : PySem.W.typeIn K (.ref y2) = some (.type "type"))
    (ha3 : PySem.W.nsIn K mainGlobals "InvalidState" = some (some (.ref y3)))
    (hg3 : PySem.W.findIn K (.ref y3) "__getattribute__" = some (some (.builtin "BaseException.__getattribute__")))
    (hk3 : PySem.W.findIn K (.ref y3) "__getattr__" = some none)
    (hs3 : PySem.W.subIn K (.ref y3) (.type "BaseException") = some true)
    (hd3 : PySem.W.hasDictIn K y3 = true)
    (hc3 : PySem.W.findIn K (.ref y3) "__class__" = some (some (.builtin "object.__class__")))
    (hm3 : PySem.W.mroIn K y3 (.type "object") = some true)
    (ht3 : PySem.W.typeIn K (.ref y3) = some (.type "type"))
    (ha4 : PySem.W.nsIn K mainGlobals "CoverError" = some (some (.ref y4)))
    (hg4 : PySem.W.findIn K (.ref y4) "__getattribute__" = some (some (.builtin "BaseException.__getattribute__")))
    (hk4 : PySem.W.findIn K (.ref y4) "__getattr__" = some none)
    (hs4 : PySem.W.subIn K (.ref y4) (.type "BaseException") = some true)
    (hd4 : PySem.W.hasDictIn K y4 = true)
    (hc4 : PySem.W.findIn K (.ref y4) "__class__" = some (some (.builtin "object.__class__")))
    (hm4 : PySem.W.mroIn K y4 (.type "object") = some true)
    (ht4 : PySem.W.typeIn K (.ref y4) = some (.type "type"))
    (gn : PySem.W.specialIn K (.builtin "object.__class__") "__get__" = some (some (.builtin "getset_descriptor.__get__")))
    (gt : PySem.W.takesIn K (.builtin "object.__class__") = some true)
    (ne_0_1 : (Value.ref y0 == Value.ref y1) = false)
    (su_0_1 : PySem.W.subIn K (.ref y0) (.ref y1) = some false)
    (ne_0_2 : (Value.ref y0 == Value.ref y2) = false)
    (su_0_2 : PySem.W.subIn K (.ref y0) (.ref y2) = some false)
    (ne_0_3 : (Value.ref y0 == Value.ref y3) = false)
    (su_0_3 : PySem.W.subIn K (.ref y0) (.ref y3) = some false)
    (ne_1_0 : (Value.ref y1 == Value.ref y0) = false)
    (su_1_0 : PySem.W.subIn K (.ref y1) (.ref y0) = some false)
    (ne_1_2 : (Value.ref y1 == Value.ref y2) = false)
    (su_1_2 : PySem.W.subIn K (.ref y1) (.ref y2) = some false)
    (ne_1_3 : (Value.ref y1 == Value.ref y3) = false)
    (su_1_3 : PySem.W.subIn K (.ref y1) (.ref y3) = some false)
    (ne_2_0 : (Value.ref y2 == Value.ref y0) = false)
    (su_2_0 : PySem.W.subIn K (.ref y2) (.ref y0) = some false)
    (ne_2_1 : (Value.ref y2 == Value.ref y1) = false)
    (su_2_1 : PySem.W.subIn K (.ref y2) (.ref y1) = some false)
    (ne_2_3 : (Value.ref y2 == Value.ref y3) = false)
    (su_2_3 : PySem.W.subIn K (.ref y2) (.ref y3) = some false)
    (ne_3_0 : (Value.ref y3 == Value.ref y0) = false)
    (su_3_0 : PySem.W.subIn K (.ref y3) (.ref y0) = some false)
    (ne_3_1 : (Value.ref y3 == Value.ref y1) = false)
    (su_3_1 : PySem.W.subIn K (.ref y3) (.ref y1) = some false)
    (ne_3_2 : (Value.ref y3 == Value.ref y2) = false)
    (su_3_2 : PySem.W.subIn K (.ref y3) (.ref y2) = some false)
    (sc_0_4 : PySem.W.subIn K (.ref y0) (.ref y4) = some true)
    (sc_1_4 : PySem.W.subIn K (.ref y1) (.ref y4) = some true)
    (sc_2_4 : PySem.W.subIn K (.ref y2) (.ref y4) = some true)
    (sc_3_4 : PySem.W.subIn K (.ref y3) (.ref y4) = some true)
    (z0 : PySem.W.nsIn K mainGlobals "len" = some none)
    (z1 : PySem.W.nsIn K mainGlobals "all" = some none)
    (z2 : PySem.W.nsIn K mainGlobals "any" = some none)
    (z3 : PySem.W.nsIn K mainGlobals "max" = some none)
    (z4 : PySem.W.nsIn K mainGlobals "min" = some none)
    (z5 : PySem.W.nsIn K mainGlobals "sum" = some none)
    (z6 : PySem.W.nsIn K mainGlobals "tuple" = some none)
    (z7 : PySem.W.nsIn K mainGlobals "list" = some none)
    (z8 : PySem.W.nsIn K mainGlobals "int" = some none)
    (z9 : PySem.W.nsIn K mainGlobals "isinstance" = some none)
    (z10 : PySem.W.nsIn K mainGlobals "bool" = some none)
    (z11 : PySem.W.nsIn K mainGlobals "str" = some none)
    (z12 : PySem.W.nsIn K mainGlobals "range" = some none)
    (z13 : PySem.W.nsIn K mainGlobals "zip" = some none)
    (z14 : PySem.W.nsIn K mainGlobals "enumerate" = some none)
    (z15 : PySem.W.nsIn K mainGlobals "set" = some none) :
    ∃ fd : FuncData, (∀ (s : Shared) (u : Value), BindsTo s fd ⟨[u], []⟩ [("_law_script", u)]) ∧ ∀ base : Heap, K.In base → base.Ns mainGlobals mg → FnOk P w K mg base (L2.CX P w) 39 fa fd ["_law_script"] (spLaw 63 K) := by
  have e := hfa.symm.trans (PySem.W.mg_of X G a38)
  cases e
  have cn_KINDS : CnOk K mg ("KINDS", g_KINDS) := ⟨_, .ref t0, PySem.W.mg_of X G v0, rfl, fun H M => .tup (xs := [.str "a", .str "b", .str "c"]) (.inr ⟨_, _, _, w0, rfl, rfl, (show (3 : Nat) ≤ sizeLine by decide +kernel), (.cons ⟨_, rfl⟩ (.cons ⟨_, rfl⟩ (.cons ⟨_, rfl⟩ .nil)))⟩) (.cons (.str _) (.cons (.str _) (.cons (.str _) .nil)))⟩
  have cn_LETTERS : CnOk K mg ("LETTERS", g_LETTERS) := ⟨_, .str "abcdefghijklmnopqrstuvwxyz", PySem.W.mg_of X G v1, ⟨_, rfl⟩, fun H M => .str _⟩
  have cn_LONGEST_WORD : CnOk K mg ("LONGEST_WORD", g_LONGEST_WORD) := ⟨_, .int (6), PySem.W.mg_of X G v2, ⟨_, rfl⟩, fun H M => .int _⟩
  have cn_RENEWALS : CnOk K mg ("RENEWALS", g_RENEWALS) := ⟨_, .ref t3, PySem.W.mg_of X G v3, rfl, fun H M => .tup (xs := [.str "anew", .str "rest"]) (.inr ⟨_, _, _, w3, rfl, rfl, (show (2 : Nat) ≤ sizeLine by decide +kernel), (.cons ⟨_, rfl⟩ (.cons ⟨_, rfl⟩ .nil))⟩) (.cons (.str _) (.cons (.str _) .nil))⟩
  have cn_UNLIMITED : CnOk K mg ("UNLIMITED", g_UNLIMITED) := ⟨_, .int (-1), PySem.W.mg_of X G v4, ⟨_, rfl⟩, fun H M => .int _⟩
  have xn_InvalidKind : XnOk K mg "InvalidKind" := ⟨_, PySem.W.mg_of X G xa0, xe0, xk0, xs0, xt0⟩
  have xn_InvalidNumber : XnOk K mg "InvalidNumber" := ⟨_, PySem.W.mg_of X G xa1, xe1, xk1, xs1, xt1⟩
  have xn_InvalidPart : XnOk K mg "InvalidPart" := ⟨_, PySem.W.mg_of X G xa2, xe2, xk2, xs2, xt2⟩
  have xn_InvalidState : XnOk K mg "InvalidState" := ⟨_, PySem.W.mg_of X G xa3, xe3, xk3, xs3, xt3⟩
  have cf_InvalidKind : ClsF K mg "InvalidKind" y0 := ⟨PySem.W.mg_of X G ha0, ⟨hg0, hk0, hs0, hd0, hc0, gn, gt, hm0⟩, ht0⟩
  have cf_InvalidNumber : ClsF K mg "InvalidNumber" y1 := ⟨PySem.W.mg_of X G ha1, ⟨hg1, hk1, hs1, hd1, hc1, gn, gt, hm1⟩, ht1⟩
  have cf_InvalidPart : ClsF K mg "InvalidPart" y2 := ⟨PySem.W.mg_of X G ha2, ⟨hg2, hk2, hs2, hd2, hc2, gn, gt, hm2⟩, ht2⟩
  have cf_InvalidState : ClsF K mg "InvalidState" y3 := ⟨PySem.W.mg_of X G ha3, ⟨hg3, hk3, hs3, hd3, hc3, gn, gt, hm3⟩, ht3⟩
  have cf_CoverError : ClsF K mg "CoverError" y4 := ⟨PySem.W.mg_of X G ha4, ⟨hg4, hk4, hs4, hd4, hc4, gn, gt, hm4⟩, ht4⟩
  have hx__law_error : HxOk K mg "CoverError" ["InvalidPart", "InvalidState", "InvalidNumber", "InvalidKind"] := hx_of (L := [("InvalidPart", y2), ("InvalidState", y3), ("InvalidNumber", y1), ("InvalidKind", y0)]) cf_CoverError (all_cons cf_InvalidPart (all_cons cf_InvalidState (all_cons cf_InvalidNumber (all_cons cf_InvalidKind (fun _ h => absurd h List.not_mem_nil))))) (all_cons sc_2_4 (all_cons sc_3_4 (all_cons sc_1_4 (all_cons sc_0_4 (fun _ h => absurd h List.not_mem_nil))))) (all_cons (all_cons kit_eq (all_cons (kit_ne (c := "InvalidPart") (c' := "InvalidState") (by decide) ne_2_3 cf_InvalidState su_2_3) (all_cons (kit_ne (c := "InvalidPart") (c' := "InvalidNumber") (by decide) ne_2_1 cf_InvalidNumber su_2_1) (all_cons (kit_ne (c := "InvalidPart") (c' := "InvalidKind") (by decide) ne_2_0 cf_InvalidKind su_2_0) (fun _ h => absurd h List.not_mem_nil))))) (all_cons (all_cons (kit_ne (c := "InvalidState") (c' := "InvalidPart") (by decide) ne_3_2 cf_InvalidPart su_3_2) (all_cons kit_eq (all_cons (kit_ne (c := "InvalidState") (c' := "InvalidNumber") (by decide) ne_3_1 cf_InvalidNumber su_3_1) (all_cons (kit_ne (c := "InvalidState") (c' := "InvalidKind") (by decide) ne_3_0 cf_InvalidKind su_3_0) (fun _ h => absurd h List.not_mem_nil))))) (all_cons (all_cons (kit_ne (c := "InvalidNumber") (c' := "InvalidPart") (by decide) ne_1_2 cf_InvalidPart su_1_2) (all_cons (kit_ne (c := "InvalidNumber") (c' := "InvalidState") (by decide) ne_1_3 cf_InvalidState su_1_3) (all_cons kit_eq (all_cons (kit_ne (c := "InvalidNumber") (c' := "InvalidKind") (by decide) ne_1_0 cf_InvalidKind su_1_0) (fun _ h => absurd h List.not_mem_nil))))) (all_cons (all_cons (kit_ne (c := "InvalidKind") (c' := "InvalidPart") (by decide) ne_0_2 cf_InvalidPart su_0_2) (all_cons (kit_ne (c := "InvalidKind") (c' := "InvalidState") (by decide) ne_0_3 cf_InvalidState su_0_3) (all_cons (kit_ne (c := "InvalidKind") (c' := "InvalidNumber") (by decide) ne_0_1 cf_InvalidNumber su_0_1) (all_cons kit_eq (fun _ h => absurd h List.not_mem_nil))))) (fun _ h => absurd h List.not_mem_nil)))))
  have bn : BnOk mg := fun b hb => by
    have hb : b ∈ ["len", "all", "any", "max", "min", "sum", "tuple", "list", "int", "isinstance", "bool", "str", "range", "zip", "enumerate", "set"] := hb
    rcases (by simpa only [List.mem_cons, List.not_mem_nil, or_false] using hb : b = "len" ∨ b = "all" ∨ b = "any" ∨ b = "max" ∨ b = "min" ∨ b = "sum" ∨ b = "tuple" ∨ b = "list" ∨ b = "int" ∨ b = "isinstance" ∨ b = "bool" ∨ b = "str" ∨ b = "range" ∨ b = "zip" ∨ b = "enumerate" ∨ b = "set") with rfl | rfl | rfl | rfl | rfl | rfl | rfl | rfl | rfl | rfl | rfl | rfl | rfl | rfl | rfl | rfl
    · exact PySem.W.mg_none_of X G z0
    · exact PySem.W.mg_none_of X G z1
    · exact PySem.W.mg_none_of X G z2
    · exact PySem.W.mg_none_of X G z3
    · exact PySem.W.mg_none_of X G z4
    · exact PySem.W.mg_none_of X G z5
    · exact PySem.W.mg_none_of X G z6
    · exact PySem.W.mg_none_of X G z7
    · exact PySem.W.mg_none_of X G z8
    · exact PySem.W.mg_none_of X G z9
    · exact PySem.W.mg_none_of X G z10
    · exact PySem.W.mg_none_of X G z11
    · exact PySem.W.mg_none_of X G z12
    · exact PySem.W.mg_none_of X G z13
    · exact PySem.W.mg_none_of X G z14
    · exact PySem.W.mg_none_of X G z15
  have F0 := fun_mk (st := stAt 47) l0 c0 k0
  have b0 := F0.binds (ps := e__law_drawn.ps) fun _ _ _ _ _ _ us hl => match us, hl with | [_, _, _], _ => rfl
  have E0 : EnOk K mg e__law_drawn := ⟨⟨_, _, _, _, F0, PySem.W.mg_of X G a0, b0⟩, k__law_drawn, (fun _ h => absurd h List.not_mem_nil), (fun _ h => absurd h List.not_mem_nil), (fun h => absurd rfl h)⟩
  have F1 := fun_mk (st := stAt 48) l1 c1 k1
  have b1 := F1.binds (ps := e__law_raw.ps) fun _ _ _ _ _ _ us hl => match us, hl with | [_, _, _], _ => rfl
  have E1 : EnOk K mg e__law_raw := ⟨⟨_, _, _, _, F1, PySem.W.mg_of X G a1, b1⟩, k__law_raw, (fun _ h => absurd h List.not_mem_nil), (fun _ h => absurd h List.not_mem_nil), (fun h => absurd rfl h)⟩
  have F2 := fun_mk (st := stAt 54) l2 c2 k2
  have b2 := F2.binds (ps := e__law_state.ps) fun _ _ _ _ _ _ us hl => match us, hl with | [_, _, _], _ => rfl
  have E2 : EnOk K mg e__law_state := ⟨⟨_, _, _, _, F2, PySem.W.mg_of X G a2, b2⟩, k__law_state, (fun _ h => absurd h List.not_mem_nil), (fun _ h => absurd h List.not_mem_nil), (fun h => absurd rfl h)⟩
  have F3 := fun_mk (st := stAt 50) l3 c3 k3
  have b3 := F3.binds (ps := e__law_after.ps) fun _ _ _ _ _ _ us hl => match us, hl with | [_, _, _, _], _ => rfl
  have E3 : EnOk K mg e__law_after := ⟨⟨_, _, _, _, F3, PySem.W.mg_of X G a3, b3⟩, k__law_after, (fun _ h => absurd h List.not_mem_nil), (fun _ h => absurd h List.not_mem_nil), (fun h => absurd rfl h)⟩
  have F4 := fun_mk (st := stAt 49) l4 c4 k4
  have b4 := F4.binds (ps := e__law_asked.ps) fun _ _ _ _ _ _ us hl => match us, hl with | [_, _, _], _ => rfl
  have E4 : EnOk K mg e__law_asked := ⟨⟨_, _, _, _, F4, PySem.W.mg_of X G a4, b4⟩, k__law_asked, (fun _ h => absurd h List.not_mem_nil), (fun _ h => absurd h List.not_mem_nil), (fun h => absurd rfl h)⟩
  have F5 := fun_mk (st := stAt 12) l5 c5 k5
  have b5 := F5.binds (ps := e_is_tuple.ps) fun _ _ _ _ _ _ us hl => match us, hl with | [_, _, _], _ => rfl
  have E5 : EnOk K mg e_is_tuple := ⟨⟨_, _, _, _, F5, PySem.W.mg_of X G a5, b5⟩, k_is_tuple, (fun _ h => absurd h List.not_mem_nil), (fun _ h => absurd h List.not_mem_nil), (fun h => absurd rfl h)⟩
  have F6 := fun_mk (st := stAt 15) l6 c6 k6
  have b6 := F6.binds (ps := e_is_word.ps) fun _ _ _ _ _ _ us hl => match us, hl with | [_], _ => rfl
  have E6 : EnOk K mg e_is_word := ⟨⟨_, _, _, _, F6, PySem.W.mg_of X G a6, b6⟩, k_is_word, (all_cons cn_LONGEST_WORD (all_cons cn_LETTERS (fun p h => absurd h List.not_mem_nil))), (fun _ h => absurd h List.not_mem_nil), (fun h => absurd rfl h)⟩
  have F7 := fun_mk (st := stAt 10) l7 c7 k7
  have b7 := F7.binds (ps := e_is_number.ps) fun _ _ _ _ _ _ us hl => match us, hl with | [_, _, _], _ => rfl
  have E7 : EnOk K mg e_is_number := ⟨⟨_, _, _, _, F7, PySem.W.mg_of X G a7, b7⟩, k_is_number, (fun _ h => absurd h List.not_mem_nil), (fun _ h => absurd h List.not_mem_nil), (fun h => absurd rfl h)⟩
  have F8 := fun_mk (st := stAt 14) l8 c8 k8
  have b8 := F8.binds (ps := e_is_kinds.ps) fun _ _ _ _ _ _ us hl => match us, hl with | [_], _ => rfl
  have E8 : EnOk K mg e_is_kinds := ⟨⟨_, _, _, _, F8, PySem.W.mg_of X G a8, b8⟩, k_is_kinds, (all_cons cn_KINDS (fun p h => absurd h List.not_mem_nil)), (fun _ h => absurd h List.not_mem_nil), (fun h => absurd rfl h)⟩
  have F9 := fun_mk (st := stAt 18) l9 c9 k9
  have b9 := F9.binds (ps := e_is_term.ps) fun _ _ _ _ _ _ us hl => match us, hl with | [_], _ => rfl
  have E9 : EnOk K mg e_is_term := ⟨⟨_, _, _, _, F9, PySem.W.mg_of X G a9, b9⟩, k_is_term, (all_cons cn_RENEWALS (fun p h => absurd h List.not_mem_nil)), (fun _ h => absurd h List.not_mem_nil), (fun h => absurd rfl h)⟩
  have F10 := fun_mk (st := stAt 23) l10 c10 k10
  have b10 := F10.binds (ps := e_is_terms.ps) fun _ _ _ _ _ _ us hl => match us, hl with | [_], _ => rfl
  have E10 : EnOk K mg e_is_terms := ⟨⟨_, _, _, _, F10, PySem.W.mg_of X G a10, b10⟩, k_is_terms, (fun _ h => absurd h List.not_mem_nil), (fun _ h => absurd h List.not_mem_nil), (fun h => absurd rfl h)⟩
  have F11 := fun_mk (st := stAt 13) l11 c11 k11
  have b11 := F11.binds (ps := e_is_kind.ps) fun _ _ _ _ _ _ us hl => match us, hl with | [_], _ => rfl
  have E11 : EnOk K mg e_is_kind := ⟨⟨_, _, _, _, F11, PySem.W.mg_of X G a11, b11⟩, k_is_kind, (all_cons cn_KINDS (fun p h => absurd h List.not_mem_nil)), (fun _ h => absurd h List.not_mem_nil), (fun h => absurd rfl h)⟩
  have F12 := fun_mk (st := stAt 21) l12 c12 k12
  have b12 := F12.binds (ps := e_is_life.ps) fun _ _ _ _ _ _ us hl => match us, hl with | [_], _ => rfl
  have E12 : EnOk K mg e_is_life := ⟨⟨_, _, _, _, F12, PySem.W.mg_of X G a12, b12⟩, k_is_life, (fun _ h => absurd h List.not_mem_nil), (fun _ h => absurd h List.not_mem_nil), (fun h => absurd rfl h)⟩
  have F13 := fun_mk (st := stAt 20) l13 c13 k13
  have b13 := F13.binds (ps := e_is_lives.ps) fun _ _ _ _ _ _ us hl => match us, hl with | [_], _ => rfl
  have E13 : EnOk K mg e_is_lives := ⟨⟨_, _, _, _, F13, PySem.W.mg_of X G a13, b13⟩, k_is_lives, (fun _ h => absurd h List.not_mem_nil), (fun _ h => absurd h List.not_mem_nil), (fun h => absurd rfl h)⟩
  have F14 := fun_mk (st := stAt 22) l14 c14 k14
  have b14 := F14.binds (ps := e_is_most.ps) fun _ _ _ _ _ _ us hl => match us, hl with | [_, _], _ => rfl
  have E14 : EnOk K mg e_is_most := ⟨⟨_, _, _, _, F14, PySem.W.mg_of X G a14, b14⟩, k_is_most, (fun _ h => absurd h List.not_mem_nil), (fun _ h => absurd h List.not_mem_nil), (fun h => absurd rfl h)⟩
  have F15 := fun_mk (st := stAt 19) l15 c15 k15
  have b15 := F15.binds (ps := e_is_part.ps) fun _ _ _ _ _ _ us hl => match us, hl with | [_], _ => rfl
  have E15 : EnOk K mg e_is_part := ⟨⟨_, _, _, _, F15, PySem.W.mg_of X G a15, b15⟩, k_is_part, (fun _ h => absurd h List.not_mem_nil), (fun _ h => absurd h List.not_mem_nil), (fun h => absurd rfl h)⟩
  have F16 := fun_mk (st := stAt 24) l16 c16 k16
  have b16 := F16.binds (ps := e_check_part.ps) fun _ _ _ _ _ _ us hl => match us, hl with | [_], _ => rfl
  have E16 : EnOk K mg e_check_part := ⟨⟨_, _, _, _, F16, PySem.W.mg_of X G a16, b16⟩, k_check_part, (fun _ h => absurd h List.not_mem_nil), (all_cons xn_InvalidPart (fun p h => absurd h List.not_mem_nil)), (fun h => absurd rfl h)⟩
  have F17 := fun_mk (st := stAt 36) l17 c17 k17
  have b17 := F17.binds (ps := e_is_row.ps) fun _ _ _ _ _ _ us hl => match us, hl with | [_, _], _ => rfl
  have E17 : EnOk K mg e_is_row := ⟨⟨_, _, _, _, F17, PySem.W.mg_of X G a17, b17⟩, k_is_row, (all_cons cn_UNLIMITED (fun p h => absurd h List.not_mem_nil)), (fun _ h => absurd h List.not_mem_nil), (fun h => absurd rfl h)⟩
  have F18 := fun_mk (st := stAt 35) l18 c18 k18
  have b18 := F18.binds (ps := e_is_rows.ps) fun _ _ _ _ _ _ us hl => match us, hl with | [_, _], _ => rfl
  have E18 : EnOk K mg e_is_rows := ⟨⟨_, _, _, _, F18, PySem.W.mg_of X G a18, b18⟩, k_is_rows, (fun _ h => absurd h List.not_mem_nil), (fun _ h => absurd h List.not_mem_nil), (fun h => absurd rfl h)⟩
  have F19 := fun_mk (st := stAt 28) l19 c19 k19
  have b19 := F19.binds (ps := e_greatest_age.ps) fun _ _ _ _ _ _ us hl => match us, hl with | [_], _ => rfl
  have E19 : EnOk K mg e_greatest_age := ⟨⟨_, _, _, _, F19, PySem.W.mg_of X G a19, b19⟩, k_greatest_age, (fun _ h => absurd h List.not_mem_nil), (fun _ h => absurd h List.not_mem_nil), (fun h => absurd rfl h)⟩
  have F20 := fun_mk (st := stAt 34) l20 c20 k20
  have b20 := F20.binds (ps := e_is_state.ps) fun _ _ _ _ _ _ us hl => match us, hl with | [_, _], _ => rfl
  have E20 : EnOk K mg e_is_state := ⟨⟨_, _, _, _, F20, PySem.W.mg_of X G a20, b20⟩, k_is_state, (fun _ h => absurd h List.not_mem_nil), (fun _ h => absurd h List.not_mem_nil), (fun h => absurd rfl h)⟩
  have F21 := fun_mk (st := stAt 37) l21 c21 k21
  have b21 := F21.binds (ps := e_check_state.ps) fun _ _ _ _ _ _ us hl => match us, hl with | [_, _], _ => rfl
  have E21 : EnOk K mg e_check_state := ⟨⟨_, _, _, _, F21, PySem.W.mg_of X G a21, b21⟩, k_check_state, (fun _ h => absurd h List.not_mem_nil), (all_cons xn_InvalidState (fun p h => absurd h List.not_mem_nil)), (fun h => absurd rfl h)⟩
  have F22 := fun_mk (st := stAt 29) l22 c22 k22
  have b22 := F22.binds (ps := e_can_be_asked.ps) fun _ _ _ _ _ _ us hl => match us, hl with | [_, _, _], _ => rfl
  have E22 : EnOk K mg e_can_be_asked := ⟨⟨_, _, _, _, F22, PySem.W.mg_of X G a22, b22⟩, k_can_be_asked, (fun _ h => absurd h List.not_mem_nil), (fun _ h => absurd h List.not_mem_nil), (fun h => absurd rfl h)⟩
  have F23 := fun_mk (st := stAt 30) l23 c23 k23
  have b23 := F23.binds (ps := e_askable.ps) fun _ _ _ _ _ _ us hl => match us, hl with | [_, _, _], _ => rfl
  have E23 : EnOk K mg e_askable := ⟨⟨_, _, _, _, F23, PySem.W.mg_of X G a23, b23⟩, k_askable, (fun _ h => absurd h List.not_mem_nil), (fun _ h => absurd h List.not_mem_nil), (fun h => absurd rfl h)⟩
  have F24 := fun_mk (st := stAt 43) l24 c24 k24
  have b24 := F24.binds (ps := e_uncovered.ps) fun _ _ _ _ _ _ us hl => match us, hl with | [_, _], _ => rfl
  have E24 : EnOk K mg e_uncovered := ⟨⟨_, _, _, _, F24, PySem.W.mg_of X G a24, b24⟩, k_uncovered, (fun _ h => absurd h List.not_mem_nil), (fun _ h => absurd h List.not_mem_nil), (fun h => absurd rfl h)⟩
  have F25 := fun_mk (st := stAt 42) l25 c25 k25
  have b25 := F25.binds (ps := e_covered.ps) fun _ _ _ _ _ _ us hl => match us, hl with | [_, _], _ => rfl
  have E25 : EnOk K mg e_covered := ⟨⟨_, _, _, _, F25, PySem.W.mg_of X G a25, b25⟩, k_covered, (fun _ h => absurd h List.not_mem_nil), (fun _ h => absurd h List.not_mem_nil), (fun h => absurd rfl h)⟩
  have F26 := fun_mk (st := stAt 31) l26 c26 k26
  have b26 := F26.binds (ps := e_state_at_end_of_day.ps) fun _ _ _ _ _ _ us hl => match us, hl with | [_, _, _], _ => rfl
  have E26 : EnOk K mg e_state_at_end_of_day := ⟨⟨_, _, _, _, F26, PySem.W.mg_of X G a26, b26⟩, k_state_at_end_of_day, (fun _ h => absurd h List.not_mem_nil), (fun _ h => absurd h List.not_mem_nil), (fun h => absurd rfl h)⟩
  have F27 := fun_mk (st := stAt 32) l27 c27 k27
  have b27 := F27.binds (ps := e_state_after_quiet.ps) fun _ _ _ _ _ _ us hl => match us, hl with | [_, _], _ => rfl
  have E27 : EnOk K mg e_state_after_quiet := ⟨⟨_, _, _, _, F27, PySem.W.mg_of X G a27, b27⟩, k_state_after_quiet, (fun _ h => absurd h List.not_mem_nil), (fun _ h => absurd h List.not_mem_nil), (fun h => absurd rfl h)⟩
  have F28 := fun_mk (st := stAt 44) l28 c28 k28
  have b28 := F28.binds (ps := e_closing.ps) fun _ _ _ _ _ _ us hl => match us, hl with | [_, _], _ => rfl
  have E28 : EnOk K mg e_closing := ⟨⟨_, _, _, _, F28, PySem.W.mg_of X G a28, b28⟩, k_closing, (fun _ h => absurd h List.not_mem_nil), (fun _ h => absurd h List.not_mem_nil), (fun h => absurd rfl h)⟩
  have F29 := fun_mk (st := stAt 38) l29 c29 k29
  have b29 := F29.binds (ps := e_check_kind.ps) fun _ _ _ _ _ _ us hl => match us, hl with | [_], _ => rfl
  have E29 : EnOk K mg e_check_kind := ⟨⟨_, _, _, _, F29, PySem.W.mg_of X G a29, b29⟩, k_check_kind, (fun _ h => absurd h List.not_mem_nil), (all_cons xn_InvalidKind (fun p h => absurd h List.not_mem_nil)), (fun h => absurd rfl h)⟩
  have F30 := fun_mk (st := stAt 45) l30 c30 k30
  have b30 := F30.binds (ps := e_days_open.ps) fun _ _ _ _ _ _ us hl => match us, hl with | [_, _, _], _ => rfl
  have E30 : EnOk K mg e_days_open := ⟨⟨_, _, _, _, F30, PySem.W.mg_of X G a30, b30⟩, k_days_open, (fun _ h => absurd h List.not_mem_nil), (fun _ h => absurd h List.not_mem_nil), (fun h => absurd rfl h)⟩
  have F31 := fun_mk (st := stAt 11) l31 c31 k31
  have b31 := F31.binds (ps := e_check_number.ps) fun _ _ _ _ _ _ us hl => match us, hl with | [_, _, _], _ => rfl
  have E31 : EnOk K mg e_check_number := ⟨⟨_, _, _, _, F31, PySem.W.mg_of X G a31, b31⟩, k_check_number, (fun _ h => absurd h List.not_mem_nil), (all_cons xn_InvalidNumber (fun p h => absurd h List.not_mem_nil)), (fun h => absurd rfl h)⟩
  have F32 := fun_mk (st := stAt 25) l32 c32 k32
  have b32 := F32.binds (ps := e_check_term_number.ps) fun _ _ _ _ _ _ us hl => match us, hl with | [_, _], _ => rfl
  have E32 : EnOk K mg e_check_term_number := ⟨⟨_, _, _, _, F32, PySem.W.mg_of X G a32, b32⟩, k_check_term_number, (fun _ h => absurd h List.not_mem_nil), (fun _ h => absurd h List.not_mem_nil), (fun h => absurd rfl h)⟩
  have F33 := fun_mk (st := stAt 41) l33 c33 k33
  have b33 := F33.binds (ps := e_reasons.ps) fun _ _ _ _ _ _ us hl => match us, hl with | [_, _, _, _], _ => rfl
  have E33 : EnOk K mg e_reasons := ⟨⟨_, _, _, _, F33, PySem.W.mg_of X G a33, b33⟩, k_reasons, (fun _ h => absurd h List.not_mem_nil), (fun _ h => absurd h List.not_mem_nil), (fun h => absurd rfl h)⟩
  have F34 := fun_mk (st := stAt 39) l34 c34 k34
  have b34 := F34.binds (ps := e_asked.ps) fun _ _ _ _ _ _ us hl => match us, hl with | [_, _, _], _ => rfl
  have E34 : EnOk K mg e_asked := ⟨⟨_, _, _, _, F34, PySem.W.mg_of X G a34, b34⟩, k_asked, (fun _ h => absurd h List.not_mem_nil), (fun _ h => absurd h List.not_mem_nil), (fun h => absurd rfl h)⟩
  have F35 := fun_mk (st := stAt 51) l35 c35 k35
  have b35 := F35.binds (ps := e__law_badpart.ps) fun _ _ _ _ _ _ us hl => match us, hl with | [_, _], _ => rfl
  have E35 : EnOk K mg e__law_badpart := ⟨⟨_, _, _, _, F35, PySem.W.mg_of X G a35, b35⟩, k__law_badpart, (fun _ h => absurd h List.not_mem_nil), (fun _ h => absurd h List.not_mem_nil), (fun h => absurd rfl h)⟩
  have F36 := fun_mk (st := stAt 52) l36 c36 k36
  have b36 := F36.binds (ps := e__law_badstate.ps) fun _ _ _ _ _ _ us hl => match us, hl with | [_, _, _], _ => rfl
  have E36 : EnOk K mg e__law_badstate := ⟨⟨_, _, _, _, F36, PySem.W.mg_of X G a36, b36⟩, k__law_badstate, (fun _ h => absurd h List.not_mem_nil), (fun _ h => absurd h List.not_mem_nil), (fun h => absurd rfl h)⟩
  have F37 := fun_mk (st := stAt 53) l37 c37 k37
  have b37 := F37.binds (ps := e__law_error.ps) fun _ _ _ _ _ _ us hl => match us, hl with | [_, _, _, _, _], _ => rfl
  have E37 : EnOk K mg e__law_error := ⟨⟨_, _, _, _, F37, PySem.W.mg_of X G a37, b37⟩, k__law_error, (fun _ h => absurd h List.not_mem_nil), (fun _ h => absurd h List.not_mem_nil), (fun _ => hx__law_error)⟩
  have F38 := fun_mk (st := stAt 55) l38 c38 k38
  have b38 := F38.binds (ps := e_law.ps) fun _ _ _ _ _ _ us hl => match us, hl with | [_], _ => rfl
  have hE : ∀ e ∈ Ld, EnOk K mg e := all_cons E37 (all_cons E36 (all_cons E35 (all_cons E34 (all_cons E33 (all_cons E32 (all_cons E31 (all_cons E30 (all_cons E29 (all_cons E28 (all_cons E27 (all_cons E26 (all_cons E25 (all_cons E24 (all_cons E23 (all_cons E22 (all_cons E21 (all_cons E20 (all_cons E19 (all_cons E18 (all_cons E17 (all_cons E16 (all_cons E15 (all_cons E14 (all_cons E13 (all_cons E12 (all_cons E11 (all_cons E10 (all_cons E9 (all_cons E8 (all_cons E7 (all_cons E6 (all_cons E5 (all_cons E4 (all_cons E3 (all_cons E2 (all_cons E1 (all_cons E0 (fun e h => absurd h List.not_mem_nil))))))))))))))))))))))))))))))))))))))
  exact ⟨_, fun s u => .of_eq rfl, fun base _ _ => law_en (e := e_law) (r := Ld) (fu := fu) (n := 63) F38 k_law (fun _ h => absurd h List.not_mem_nil) (fun _ h => absurd h List.not_mem_nil) (fun h => absurd rfl h) bn cl_Ld hE hl⟩
end Rf
theorem Rf.pure_law (ns : List Int) (h : ns.length ≤ 63) : Rf.orc 1000 (Rf.tabl (Rf.e_law :: Rf.Ld)) Rf.e_law.f [.d (.list (ns.map .int))] [] = .d (.bool true) := Rf.law64 h
open PySem PySem.W PyProof.Rows
theorem PySem.Challenge.cw_coverterms_k64_refusals_holds : PySem.Challenge.rw_coverterms_k64_refusals.Holds := by
  w_on; o_law; k_head; (case hw => w_witness2)
  k_fill
  refine Rf.walk_law (l := PySem.Challenge.rw_coverterms_k64_refusals) (n := 63) (k := 39) (x := "_law_script") rfl (by decide) ⟨rfl, by decide, by decide⟩ rfl (fun w h Y => PySem.W.kIn_of Y) ?F
  case F =>
    intro w mg fa h KX G hmg
    refine' Rf.all_mk KX G hmg 1000 Rf.pure_law ?a0 ?l0 ?c0 ?k0 ?a1 ?l1 ?c1 ?k1 ?a2 ?l2 ?c2 ?k2 ?a3 ?l3 ?c3 ?k3 ?a4 ?l4 ?c4 ?k4 ?a5 ?l5 ?c5 ?k5 ?a6 ?l6 ?c6 ?k6 ?a7 ?l7 ?c7 ?k7 ?a8 ?l8 ?c8 ?k8 ?a9 ?l9 ?c9 ?k9 ?a10 ?l10 ?c10 ?k10 ?a11 ?l11 ?c11 ?k11 ?a12 ?l12 ?c12 ?k12 ?a13 ?l13 ?c13 ?k13 ?a14 ?l14 ?c14 ?k14 ?a15 ?l15 ?c15 ?k15 ?a16 ?l16 ?c16 ?k16 ?a17 ?l17 ?c17 ?k17 ?a18 ?l18 ?c18 ?k18 ?a19 ?l19 ?c19 ?k19 ?a20 ?l20 ?c20 ?k20 ?a21 ?l21 ?c21 ?k21 ?a22 ?l22 ?c22 ?k22 ?a23 ?l23 ?c23 ?k23 ?a24 ?l24 ?c24 ?k24 ?a25 ?l25 ?c25 ?k25 ?a26 ?l26 ?c26 ?k26 ?a27 ?l27 ?c27 ?k27 ?a28 ?l28 ?c28 ?k28 ?a29 ?l29 ?c29 ?k29 ?a30 ?l30 ?c30 ?k30 ?a31 ?l31 ?c31 ?k31 ?a32 ?l32 ?c32 ?k32 ?a33 ?l33 ?c33 ?k33 ?a34 ?l34 ?c34 ?k34 ?a35 ?l35 ?c35 ?k35 ?a36 ?l36 ?c36 ?k36 ?a37 ?l37 ?c37 ?k37 ?a38 ?l38 ?c38 ?k38 ?v0 ?w0 ?v1 ?v2 ?v3 ?w3 ?v4 ?xa0 ?xe0 ?xk0 ?xs0 ?xt0 ?xa1 ?xe1 ?xk1 ?xs1 ?xt1 ?xa2 ?xe2 ?xk2 ?xs2 ?xt2 ?xa3 ?xe3 ?xk3 ?xs3 ?xt3 ?ha0 ?hg0 ?hk0 ?hs0 ?hd0 ?hc0 ?hm0 ?ht0 ?ha1 ?hg1 ?hk1 ?hs1 ?hd1 ?hc1 ?hm1 ?ht1 ?ha2 ?hg2 ?hk2 ?hs2 ?hd2 ?hc2 ?hm2 ?ht2 ?ha3 ?hg3 ?hk3 ?hs3 ?hd3 ?hc3 ?hm3 ?ht3 ?ha4 ?hg4 ?hk4 ?hs4 ?hd4 ?hc4 ?hm4 ?ht4 ?gn ?gt ?ne_0_1 ?su_0_1 ?ne_0_2 ?su_0_2 ?ne_0_3 ?su_0_3 ?ne_1_0 ?su_1_0 ?ne_1_2 ?su_1_2 ?ne_1_3 ?su_1_3 ?ne_2_0 ?su_2_0 ?ne_2_1 ?su_2_1 ?ne_2_3 ?su_2_3 ?ne_3_0 ?su_3_0 ?ne_3_1 ?su_3_1 ?ne_3_2 ?su_3_2 ?sc_0_4 ?sc_1_4 ?sc_2_4 ?sc_3_4 ?z0 ?z1 ?z2 ?z3 ?z4 ?z5 ?z6 ?z7 ?z8 ?z9 ?z10 ?z11 ?z12 ?z13 ?z14 ?z15
    (case a0 => k_is)
    (case l0 => k_is)
    (case c0 => k_is)
    (case k0 => k_is)
    (case a1 => k_is)
    (case l1 => k_is)
    (case c1 => k_is)
    (case k1 => k_is)
    (case a2 => k_is)
    (case l2 => k_is)
    (case c2 => k_is)
    (case k2 => k_is)
    (case a3 => k_is)
    (case l3 => k_is)
    (case c3 => k_is)
    (case k3 => k_is)
    (case a4 => k_is)
    (case l4 => k_is)
    (case c4 => k_is)
    (case k4 => k_is)
    (case a5 => k_is)
    (case l5 => k_is)
    (case c5 => k_is)
    (case k5 => k_is)
    (case a6 => k_is)
    (case l6 => k_is)
    (case c6 => k_is)
    (case k6 => k_is)
    (case a7 => k_is)
    (case l7 => k_is)
    (case c7 => k_is)
    (case k7 => k_is)
    (case a8 => k_is)
    (case l8 => k_is)
    (case c8 => k_is)
    (case k8 => k_is)
    (case a9 => k_is)
    (case l9 => k_is)
    (case c9 => k_is)
    (case k9 => k_is)
    (case a10 => k_is)
    (case l10 => k_is)
    (case c10 => k_is)
    (case k10 => k_is)
    (case a11 => k_is)
    (case l11 => k_is)
    (case c11 => k_is)
    (case k11 => k_is)
    (case a12 => k_is)
    (case l12 => k_is)
    (case c12 => k_is)
    (case k12 => k_is)
    (case a13 => k_is)
    (case l13 => k_is)
    (case c13 => k_is)
    (case k13 => k_is)
    (case a14 => k_is)
    (case l14 => k_is)
    (case c14 => k_is)
    (case k14 => k_is)
    (case a15 => k_is)
    (case l15 => k_is)
    (case c15 => k_is)
    (case k15 => k_is)
    (case a16 => k_is)
    (case l16 => k_is)
    (case c16 => k_is)
    (case k16 => k_is)
    (case a17 => k_is)
    (case l17 => k_is)
    (case c17 => k_is)
    (case k17 => k_is)
    (case a18 => k_is)
    (case l18 => k_is)
    (case c18 => k_is)
    (case k18 => k_is)
    (case a19 => k_is)
    (case l19 => k_is)
    (case c19 => k_is)
    (case k19 => k_is)
    (case a20 => k_is)
    (case l20 => k_is)
    (case c20 => k_is)
    (case k20 => k_is)
    (case a21 => k_is)
    (case l21 => k_is)
    (case c21 => k_is)
    (case k21 => k_is)
    (case a22 => k_is)
    (case l22 => k_is)
    (case c22 => k_is)
    (case k22 => k_is)
    (case a23 => k_is)
    (case l23 => k_is)
    (case c23 => k_is)
    (case k23 => k_is)
    (case a24 => k_is)
    (case l24 => k_is)
    (case c24 => k_is)
    (case k24 => k_is)
    (case a25 => k_is)
    (case l25 => k_is)
    (case c25 => k_is)
    (case k25 => k_is)
    (case a26 => k_is)
    (case l26 => k_is)
    (case c26 => k_is)
    (case k26 => k_is)
    (case a27 => k_is)
    (case l27 => k_is)
    (case c27 => k_is)
    (case k27 => k_is)
    (case a28 => k_is)
    (case l28 => k_is)
    (case c28 => k_is)
    (case k28 => k_is)
    (case a29 => k_is)
    (case l29 => k_is)
    (case c29 => k_is)
    (case k29 => k_is)
    (case a30 => k_is)
    (case l30 => k_is)
    (case c30 => k_is)
    (case k30 => k_is)
    (case a31 => k_is)
    (case l31 => k_is)
    (case c31 => k_is)
    (case k31 => k_is)
    (case a32 => k_is)
    (case l32 => k_is)
    (case c32 => k_is)
    (case k32 => k_is)
    (case a33 => k_is)
    (case l33 => k_is)
    (case c33 => k_is)
    (case k33 => k_is)
    (case a34 => k_is)
    (case l34 => k_is)
    (case c34 => k_is)
    (case k34 => k_is)
    (case a35 => k_is)
    (case l35 => k_is)
    (case c35 => k_is)
    (case k35 => k_is)
    (case a36 => k_is)
    (case l36 => k_is)
    (case c36 => k_is)
    (case k36 => k_is)
    (case a37 => k_is)
    (case l37 => k_is)
    (case c37 => k_is)
    (case k37 => k_is)
    (case a38 => k_is)
    (case l38 => k_is)
    (case c38 => k_is)
    (case k38 => k_is)
    (case v0 => k_is)
    (case w0 => k_is)
    (case v1 => k_is)
    (case v2 => k_is)
    (case v3 => k_is)
    (case w3 => k_is)
    (case v4 => k_is)
    (case xa0 => k_is)
    (case xe0 => k_exc)
    (case xk0 => k_is)
    (case xs0 => k_is)
    (case xt0 => k_is)
    (case xa1 => k_is)
    (case xe1 => k_exc)
    (case xk1 => k_is)
    (case xs1 => k_is)
    (case xt1 => k_is)
    (case xa2 => k_is)
    (case xe2 => k_exc)
    (case xk2 => k_is)
    (case xs2 => k_is)
    (case xt2 => k_is)
    (case xa3 => k_is)
    (case xe3 => k_exc)
    (case xk3 => k_is)
    (case xs3 => k_is)
    (case xt3 => k_is)
    (case ha0 => k_is)
    (case hg0 => k_is)
    (case hk0 => k_is)
    (case hs0 => k_is)
    (case hd0 => k_is)
    (case hc0 => k_is)
    (case hm0 => k_is)
    (case ht0 => k_is)
    (case ha1 => k_is)
    (case hg1 => k_is)
    (case hk1 => k_is)
    (case hs1 => k_is)
    (case hd1 => k_is)
    (case hc1 => k_is)
    (case hm1 => k_is)
    (case ht1 => k_is)
    (case ha2 => k_is)
    (case hg2 => k_is)
    (case hk2 => k_is)
    (case hs2 => k_is)
    (case hd2 => k_is)
    (case hc2 => k_is)
    (case hm2 => k_is)
    (case ht2 => k_is)
    (case ha3 => k_is)
    (case hg3 => k_is)
    (case hk3 => k_is)
    (case hs3 => k_is)
    (case hd3 => k_is)
    (case hc3 => k_is)
    (case hm3 => k_is)
    (case ht3 => k_is)
    (case ha4 => k_is)
    (case hg4 => k_is)
    (case hk4 => k_is)
    (case hs4 => k_is)
    (case hd4 => k_is)
    (case hc4 => k_is)
    (case hm4 => k_is)
    (case ht4 => k_is)
    (case gn => k_is)
    (case gt => k_is)
    (case ne_0_1 => decide)
    (case su_0_1 => k_is)
    (case ne_0_2 => decide)
    (case su_0_2 => k_is)
    (case ne_0_3 => decide)
    (case su_0_3 => k_is)
    (case ne_1_0 => decide)
    (case su_1_0 => k_is)
    (case ne_1_2 => decide)
    (case su_1_2 => k_is)
    (case ne_1_3 => decide)
    (case su_1_3 => k_is)
    (case ne_2_0 => decide)
    (case su_2_0 => k_is)
    (case ne_2_1 => decide)
    (case su_2_1 => k_is)
    (case ne_2_3 => decide)
    (case su_2_3 => k_is)
    (case ne_3_0 => decide)
    (case su_3_0 => k_is)
    (case ne_3_1 => decide)
    (case su_3_1 => k_is)
    (case ne_3_2 => decide)
    (case su_3_2 => k_is)
    (case sc_0_4 => k_is)
    (case sc_1_4 => k_is)
    (case sc_2_4 => k_is)
    (case sc_3_4 => k_is)
    (case z0 => k_is)
    (case z1 => k_is)
    (case z2 => k_is)
    (case z3 => k_is)
    (case z4 => k_is)
    (case z5 => k_is)
    (case z6 => k_is)
    (case z7 => k_is)
    (case z8 => k_is)
    (case z9 => k_is)
    (case z10 => k_is)
    (case z11 => k_is)
    (case z12 => k_is)
    (case z13 => k_is)
    (case z14 => k_is)
    (case z15 => k_is)
