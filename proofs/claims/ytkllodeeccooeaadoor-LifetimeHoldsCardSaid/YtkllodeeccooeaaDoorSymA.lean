/- A machine over values that are known, or unknown numbers as linear forms with facts about them, or unknown otherwise: a run of it that ends well on every way is a contract of the call. No conditions but that of the tables (mixed orders). -/
import Derived.Calls
import Derived.Below
import Derived.Orders
import Derived.Laws.Entries
import Derived.Laws.BytesString
import Derived.ChangeKeysEq
import Derived.Laws.Strings
import Derived.Laws.StructEq
import Derived.Laws.Tables
import Derived.IntWalk
/- The abstract machine: definitions. A run of the machine over values that are known but for the places of new blocks and the spare room of slices. -/
namespace Go.Sim
set_option linter.unusedVariables false
set_option linter.unusedSimpArgs false

/-- a capacity that is not known -/
noncomputable def unk : Nat := 1180591620717411303424
/-- a capacity that is not known, of a row that the machine may append to -/
noncomputable def unk2 : Nat := 1180591620717411303425
noncomputable def isU (c : Nat) : Bool := Nat.ble unk c
/-- a capacity that is at least k -/
noncomputable def unkK (k : Nat) : Nat := Nat.add 1180591620717411303426 k
/-- what a capacity is at least, of a slice of length n -/
noncomputable def lbC (n c : Nat) : Nat := bif Nat.ble 1180591620717411303426 c then Nat.sub c 1180591620717411303426 else n
/-- a value of which nothing is known -/
noncomputable def bad : Value := .complex .f32 0 0
/-- a value of one cell of which nothing else is known -/
noncomputable def top : Value := .chan none

/-- an integer of a kind, a string, a slice of which nothing else is known -/
noncomputable def kno : IntKind → Nat
  | .i8 => 0 | .i16 => 1 | .i32 => 2 | .i64 => 3 | .u8 => 4 | .u16 => 5 | .u32 => 6 | .u64 => 7
noncomputable def topI (k : IntKind) : Value := .chan (some (kno k))
noncomputable def topS : Value := .chan (some 20)
noncomputable def topL : Value := .chan (some 21)
noncomputable def kOf : Nat → Option IntKind
  | 0 => some .i8 | 1 => some .i16 | 2 => some .i32 | 3 => some .i64 | 4 => some .u8 | 5 => some .u16 | 6 => some .u32 | 7 => some .u64
  | _ => none

/-- the unknown integers (variables), the unknown values, and the calls that are not entered: what they answer -/
class Ev where
  val : Nat → Int
  op : Nat → Value
  con : FuncId → List Value → Value → Prop
  /-- the heap in which the unknowns lie -/
  heap : Nat → Option Obj
  /-- a slice's and a string's number is its length -/
  lenL : ∀ (i : Nat) (a : Option Addr) (n c : Nat), op i = .slice a n c → val i = (n : Int)
  lenS : ∀ (i : Nat) (s : ByteArray), op i = .string s → val i = (s.size : Int)
  /-- from 64 on the variables are the bits of those before -/
  bit : ∀ (i b : Nat), i < 64 → b < 32 → val (64 + (32 * i + b)) = if (val i).toNat.testBit b then 1 else 0

/-- an argument of a call that is not entered: an unknown value, or several in a row -/
inductive CP where
  | one (i : Nat)
  | agg (is : List Nat)

/-- what is known: bounds of the variables, forms that are not negative, calls that are not entered -/
structure Facts where
  lo : List Int
  hi : List Int
  cs : List (List Int)
  con : List (FuncId × List CP × Value)
  /-- the cells of the unknowns: what is known of them -/
  cells : List Value
  /-- slices among them: the elements' type and cells -/
  els : List (Nat × TypeId × List Value)

noncomputable def noF : Facts := ⟨[], [], [], [], [], []⟩
/-- bounds from here on are none -/
def noBound : Int := 1208925819614629174706176
/-- the i-th unit -/
noncomputable def unitL : Nat → List Int
  | 0 => [1]
  | i + 1 => 0 :: unitL i

/-- a number that is a form: a constant and the variables' factors -/
noncomputable def symV (k : IntKind) (f : List Int) : Value := .func (.methodOf (kno k) "") ⟨f.map (Value.int .i64)⟩ #[]
/-- an unknown value: 0: of one cell, 1: a string, 2: a slice -/
noncomputable def opqV (c i : Nat) : Value := .func (.via c #[] i false) #[] #[]

noncomputable def intsV : List Value → Option (List Int)
  | [] => some []
  | .int .i64 n :: l => match intsV l with | some r => some (n :: r) | none => none
  | _ => none
noncomputable def linOf : Value → Option (IntKind × List Int)
  | .int k n => some (k, [n])
  | .func (.methodOf a _) l _ => match kOf a, intsV l.toList with
    | some k, some f => some (k, f)
    | _, _ => none
  | _ => none
/-- a truth that hangs on a form: 30: it is not negative, 31: it is 0, 32: it is not 0 -/
noncomputable def symB (c : Nat) (f : List Int) : Value := .func (.methodOf c "") ⟨f.map (Value.int .i64)⟩ #[]
noncomputable def boolOf : Value → Option (Nat × List Int)
  | .func (.methodOf c _) l _ => bif Nat.ble 30 c then match intsV l.toList with | some f => some (c, f) | none => none else none
  | _ => none
/-! words of unknown bits: entries mask * 32 + bit; the number is the exclusive or of 2 ^ bit over the entries whose variables are all 1 -/
noncomputable def insX (e : Nat) (l : List Nat) : List Nat :=
  List.rec (motive := fun _ => List Nat) [e] (fun a l ih => Bool.rec (motive := fun _ => List Nat) (Bool.rec (motive := fun _ => List Nat) (e :: a :: l) (a :: ih) (Nat.ble a e)) l (Nat.beq e a)) l
noncomputable def xorW (f g : List Nat) : List Nat := List.rec (motive := fun _ => List Nat) g (fun e _ ih => insX e ih) f
noncomputable def mulE (a b : Nat) : Nat := Nat.add (Nat.mul (Nat.lor (Nat.div a 32) (Nat.div b 32)) 32) (Nat.mod a 32)
noncomputable def andE (a : Nat) (g acc : List Nat) : List Nat :=
  List.rec (motive := fun _ => List Nat) acc (fun b _ ih => Bool.rec (motive := fun _ => List Nat) ih (insX (mulE a b) ih) (Nat.beq (Nat.mod a 32) (Nat.mod b 32))) g
noncomputable def andW (f g : List Nat) : List Nat := List.rec (motive := fun _ => List Nat) [] (fun a _ ih => andE a g ih) f
noncomputable def orW (f g : List Nat) : List Nat := xorW (xorW f g) (andW f g)
noncomputable def constW (n k : Nat) : List Nat :=
  Nat.rec (motive := fun _ => List Nat) [] (fun b ih => Bool.rec (motive := fun _ => List Nat) ih (insX b ih) (Nat.beq (Nat.mod (Nat.div n (Nat.pow 2 b)) 2) 1)) k
noncomputable def varW (i k : Nat) : List Nat :=
  Nat.rec (motive := fun _ => List Nat) [] (fun b ih => insX (Nat.add (Nat.mul (Nat.pow 2 (Nat.add (Nat.mul 32 i) b)) 32) b) ih) k
/-- the bits from p on, and those before -/
noncomputable def hiW (p : Nat) (f : List Nat) : List Nat := List.rec (motive := fun _ => List Nat) [] (fun e _ ih => Bool.rec (motive := fun _ => List Nat) ih (e :: ih) (Nat.ble p (Nat.mod e 32))) f
noncomputable def loW (p : Nat) (f : List Nat) : List Nat := List.rec (motive := fun _ => List Nat) [] (fun e _ ih => Bool.rec (motive := fun _ => List Nat) (e :: ih) ih (Nat.ble p (Nat.mod e 32))) f
noncomputable def shrW (p : Nat) (f : List Nat) : List Nat := List.rec (motive := fun _ => List Nat) [] (fun e _ ih => Bool.rec (motive := fun _ => List Nat) ih (Nat.sub e p :: ih) (Nat.ble p (Nat.mod e 32))) f
/-- its number, if nothing in it is unknown -/
noncomputable def numW (f : List Nat) : Option Nat := List.rec (motive := fun _ => Option Nat) (some 0)
  (fun e _ ih => Bool.rec (motive := fun _ => Option Nat) none (Option.rec (motive := fun _ => Option Nat) none (fun r => some (Nat.xor (Nat.pow 2 e) r)) ih) (Nat.blt e 32)) f
noncomputable def wordV (f : List Nat) : Value := match numW f with
  | some n => .int .u32 (.ofNat n)
  | none => .func (.methodOf 16 "") ⟨f.map fun e => Value.int .i64 (.ofNat e)⟩ #[]
noncomputable def natsV : List Value → Option (List Nat)
  | [] => some []
  | .int .i64 (.ofNat n) :: l => match natsV l with | some r => some (n :: r) | none => none
  | _ => none
noncomputable def natsI (f : List Int) : List Nat := f.map Int.toNat
noncomputable def intsN (f : List Nat) : List Int := f.map Int.ofNat

noncomputable def isSym : Value → Bool
  | .func (.methodOf _ _) _ _ => true
  | .func (.via _ _ _ _) _ _ => true
  | _ => false
/-- less is known -/
noncomputable def weak : Value → Value
  | .func (.methodOf a _) _ _ => bif Nat.ble 30 a then .chan none else bif Nat.beq a 16 then .chan (some 6) else .chan (some a)
  | .func (.via 0 _ _ _) _ _ => .chan none
  | .func (.via 1 _ _ _) _ _ => .chan (some 20)
  | .func (.via 2 _ _ _) _ _ => .chan (some 21)
  | v => v

noncomputable def addL : List Int → List Int → List Int
  | [], g => g
  | f, [] => f
  | a :: f, b :: g => (a + b) :: addL f g
noncomputable def mulL (c : Int) : List Int → List Int
  | [] => []
  | a :: f => (c * a) :: mulL c f
noncomputable def subZ (a b : Int) : Int := Int.rec (motive := fun _ => Int)
  (fun m => Int.rec (motive := fun _ => Int) (fun n => Bool.rec (motive := fun _ => Int) (.negSucc (Nat.pred (Nat.sub n m))) (.ofNat (Nat.sub m n)) (Nat.ble n m)) (fun n => .ofNat (Nat.add m (Nat.succ n))) b)
  (fun m => Int.rec (motive := fun _ => Int) (fun n => .negSucc (Nat.add m n)) (fun n => Bool.rec (motive := fun _ => Int) (.negSucc (Nat.pred (Nat.sub m n))) (.ofNat (Nat.sub n m)) (Nat.ble m n)) b) a
noncomputable def subL (f : List Int) : List Int → List Int :=
  List.rec (motive := fun _ => List Int → List Int) (fun g => List.rec (motive := fun _ => List Int) [] (fun b _ r => subZ (.ofNat 0) b :: r) g)
    (fun a f ih g => List.rec (motive := fun _ => List Int) (a :: f) (fun b g _ => subZ a b :: ih g) g) f
noncomputable def zeroL : List Int → Bool
  | [] => true
  | a :: f => bif a == 0 then zeroL f else false

/-- the least value of a sum, and whether it is negative: by the recursors -/
noncomputable def tl (l : List Int) : List Int := List.rec (motive := fun _ => List Int) [] (fun _ t _ => t) l
noncomputable def hd (l : List Int) (s : Int → Bool) : Bool := List.rec (motive := fun _ => Bool) false (fun a _ _ => s a) l
noncomputable def addZ (a b : Int) (s : Int → Bool) : Bool := Int.rec (motive := fun _ => Bool)
  (fun m => Int.rec (motive := fun _ => Bool) (fun n => s (.ofNat (Nat.add m n))) (fun n => Bool.rec (motive := fun _ => Bool) (s (.negSucc (Nat.sub n m))) (s (.ofNat (Nat.sub m (Nat.succ n)))) (Nat.ble (Nat.succ n) m)) b)
  (fun m => Int.rec (motive := fun _ => Bool) (fun n => Bool.rec (motive := fun _ => Bool) (s (.negSucc (Nat.sub m n))) (s (.ofNat (Nat.sub n (Nat.succ m)))) (Nat.ble (Nat.succ m) n)) (fun n => s (.negSucc (Nat.succ (Nat.add m n)))) b) a
noncomputable def mulP (n : Nat) (b : Int) (s : Int → Bool) : Bool := Int.rec (motive := fun _ => Bool) (fun m => s (.ofNat (Nat.mul n m))) (fun m => s (.negSucc (Nat.pred (Nat.mul n (Nat.succ m))))) b
noncomputable def mulN (n : Nat) (b : Int) (s : Int → Bool) : Bool := Int.rec (motive := fun _ => Bool) (fun m => Bool.rec (motive := fun _ => Bool) (s (.negSucc (Nat.pred (Nat.mul n m)))) (s (.ofNat 0)) (Nat.beq m 0)) (fun m => s (.ofNat (Nat.mul n (Nat.succ m)))) b
noncomputable def nn (f : List Int) : List Int → List Int → Int → Bool :=
  List.rec (motive := fun _ => List Int → List Int → Int → Bool)
    (fun _ _ a => Int.rec (motive := fun _ => Bool) (fun _ => true) (fun _ => false) a)
    (fun c _ ih lo hi a => Int.rec (motive := fun _ => Bool)
      (fun n => Bool.rec (motive := fun _ => Bool) (hd lo fun l => mulP n l fun p => addZ a p fun a => ih (tl lo) (tl hi) a) (ih (tl lo) (tl hi) a) (Nat.beq n 0))
      (fun n => hd hi fun u => Bool.rec (motive := fun _ => Bool) (mulN (Nat.succ n) u fun p => addZ a p fun a => ih (tl lo) (tl hi) a) false (decide (noBound ≤ u))) c) f
noncomputable def nonneg (K : Facts) (f : List Int) : Bool := List.rec (motive := fun _ => Bool) true (fun c cs _ => nn cs K.lo K.hi c) f
noncomputable def anyL (p : List Int → Bool) (l : List (List Int)) : Bool := List.rec (motive := fun _ => Bool) false (fun g _ r => Bool.rec (motive := fun _ => Bool) r true (p g)) l
noncomputable def sameSign (a b : Int) : Bool := Int.rec (motive := fun _ => Bool) (fun m => Int.rec (motive := fun _ => Bool) (fun n => Nat.ble 1 (Nat.mul m n)) (fun _ => false) b) (fun _ => Int.rec (motive := fun _ => Bool) (fun _ => false) (fun _ => true) b) a
/-- is there a variable with factors of the same sign? -/
noncomputable def shares (f : List Int) : List Int → Bool :=
  List.rec (motive := fun _ => List Int → Bool) (fun _ => false) (fun a _ ih g => List.rec (motive := fun _ => Bool) false (fun b g _ => Bool.rec (motive := fun _ => Bool) (ih g) true (sameSign a b)) g) f
noncomputable def ifB (c s : Bool) : Bool := Bool.rec (motive := fun _ => Bool) false s c
/-- it is not negative -/
noncomputable def pos (K : Facts) (f : List Int) : Bool :=
  Bool.rec (motive := fun _ => Bool)
    (Bool.rec (motive := fun _ => Bool) (anyL (fun g => ifB (shares (tl f) (tl g)) (anyL (fun g' => ifB (shares (tl (subL f g)) (tl g')) (nonneg K (subL (subL f g) g'))) K.cs)) K.cs) true
      (anyL (fun g => ifB (shares (tl f) (tl g)) (nonneg K (subL f g))) K.cs)) true (nonneg K f)
noncomputable def notL (f : List Int) : List Int := subL [-1] f
noncomputable def decS (K : Facts) (f : List Int) : Option Bool := bif pos K f then some true else bif pos K (notL f) then some false else none
noncomputable def eqS (K : Facts) (f g : List Int) : Option Bool :=
  match decS K (subL f g) with
  | some false => some false
  | d => match decS K (subL g f), d with
    | some false, _ => some false
    | some true, some true => some true
    | _, _ => none
/-! what is known of the bits -/
noncomputable def dropT (l : List Int) (k : Nat) : List Int := Nat.rec (motive := fun _ => List Int) l (fun _ ih => tl ih) k
noncomputable def geOne (a : Int) : Bool := Int.rec (motive := fun _ => Bool) (fun n => Nat.ble 1 n) (fun _ => false) a
noncomputable def leZero (a : Int) : Bool := Int.rec (motive := fun _ => Bool) (fun n => Nat.beq n 0) (fun _ => true) a
noncomputable def maskOf (p : Int → Bool) (l : List Int) : Nat := List.rec (motive := fun _ => Nat) 0 (fun a _ ih => Nat.add (Nat.mul 2 ih) (Bool.rec (motive := fun _ => Nat) 0 1 (p a))) l
noncomputable def redW (ones zeros : Nat) (f : List Nat) : List Nat := List.rec (motive := fun _ => List Nat) []
  (fun e _ ih => Bool.rec (motive := fun _ => List Nat) ih (insX (Nat.add (Nat.mul (Nat.xor (Nat.div e 32) (Nat.land (Nat.div e 32) ones)) 32) (Nat.mod e 32)) ih) (Nat.beq (Nat.land (Nat.div e 32) zeros) 0)) f
noncomputable def redK (K : Facts) (f : List Nat) : List Nat := redW (maskOf geOne (dropT K.lo 64)) (maskOf leZero (dropT K.hi 64)) f
/-- no other entry has the bit -/
noncomputable def soleW (e : Nat) (f : List Nat) : Bool := List.rec (motive := fun _ => Bool) true (fun a _ ih => Bool.rec (motive := fun _ => Bool) ih (Bool.rec (motive := fun _ => Bool) false ih (Nat.beq a e)) (Nat.beq (Nat.mod a 32) e)) f
noncomputable def countW (e : Nat) (f : List Nat) : Nat := List.rec (motive := fun _ => Nat) 0 (fun a _ ih => Bool.rec (motive := fun _ => Nat) ih (Nat.succ ih) (Nat.beq a e)) f
/-- a bit that is 1 -/
noncomputable def hasOne (all f : List Nat) : Bool := List.rec (motive := fun _ => Bool) false (fun e _ ih => Bool.rec (motive := fun _ => Bool) ih (Bool.rec (motive := fun _ => Bool) ih true (soleW e all && Nat.beq (countW e all) 1)) (Nat.blt e 32)) f
/-- the entry is the only one with its bit -/
noncomputable def soleE (e : Nat) (f : List Nat) : Bool := List.rec (motive := fun _ => Bool) true (fun a _ ih => Bool.rec (motive := fun _ => Bool) ih (Bool.rec (motive := fun _ => Bool) false ih (Nat.beq a e)) (Nat.beq (Nat.mod a 32) (Nat.mod e 32))) f
/-- the variables each of which alone makes a bit -/
noncomputable def lonesW (all f : List Nat) : Nat := List.rec (motive := fun _ => Nat) 0 (fun e _ ih => Bool.rec (motive := fun _ => Nat) ih (Nat.lor (Nat.div e 32) ih)
  (Nat.beq (Nat.pow 2 (Nat.log2 (Nat.div e 32))) (Nat.div e 32) && (soleE e all && Nat.beq (countW e all) 1))) f
noncomputable def maskOne : List Int → Option Nat
  | [] => some 0
  | a :: l => match maskOne l with
    | some m => bif a == 0 then some (2 * m) else bif a == 1 then some (2 * m + 1) else none
    | none => none
/-- a form that says: one of these bits is 1 -/
noncomputable def setOf : List Int → Option Nat
  | c :: cs => bif c == -1 && zeroL (cs.take 64) then maskOne (cs.drop 64) else none
  | [] => none
noncomputable def factW (cs : List (List Int)) (all : List Nat) : Bool := anyL (fun g => match setOf g with
  | some s => Nat.beq (Nat.land s (lonesW all all)) s
  | none => false) cs
/-- is it 0? -/
noncomputable def decW (K : Facts) (f : List Nat) : Option Bool := match redK K f with
  | [] => some true
  | e :: r => bif hasOne (e :: r) (e :: r) then some false else bif factW K.cs (e :: r) then some false else none
noncomputable def firstV (f : List Nat) : Option Nat := List.rec (motive := fun _ => Option Nat) none (fun e _ ih => Bool.rec (motive := fun _ => Option Nat) (some (Nat.log2 (Nat.div e 32))) ih (Nat.blt e 32)) f
noncomputable def needK (K : Facts) (f : List Nat) : Option (List Int) := match firstV (redK K f) with
  | some v => some ((-1) :: unitL (64 + v))
  | none => none

noncomputable def decB (K : Facts) (c : Nat) (f : List Int) : Option Bool :=
  bif Nat.beq c 30 then decS K f else bif Nat.ble 33 c then (match decW K (natsI f) with
    | some b => some (bif Nat.beq c 33 then b else !b)
    | none => none)
  else match eqS K f [] with
    | some b => some (bif Nat.beq c 31 then b else !b)
    | none => none
noncomputable def negB (c : Nat) (f : List Int) : Value := bif Nat.beq c 30 then symB 30 (notL f) else bif Nat.ble 33 c then (bif Nat.beq c 33 then symB 34 f else symB 33 f) else bif Nat.beq c 31 then symB 32 f else symB 31 f
noncomputable def mkB (K : Facts) (c : Nat) (f : List Int) : Value := match decB K c f with
  | some b => .bool b
  | none => symB c f
noncomputable def inK (K : Facts) (k : IntKind) (f : List Int) : Bool := pos K (subL f [k.min]) && pos K (subL [k.max] f)
noncomputable def mkI (K : Facts) (k : IntKind) (f : List Int) : Value :=
  bif inK K k f then (match f with
    | [] => .int k 0
    | c :: cs => bif zeroL cs then .int k c else symV k (c :: cs)) else topI k

noncomputable def linBin (K : Facts) (op : BinOp) (k : IntKind) (f g : List Int) : Option Value :=
  match op with
  | .add => some (mkI K k (addL f g))
  | .sub => some (mkI K k (subL f g))
  | .mul => match f, g with
    | [c], g => some (mkI K k (mulL c g))
    | f, [c] => some (mkI K k (mulL c f))
    | _, _ => none
  | .lss => some (mkB K 30 (subL (subL g f) [1]))
  | .leq => some (mkB K 30 (subL g f))
  | .gtr => some (mkB K 30 (subL (subL f g) [1]))
  | .geq => some (mkB K 30 (subL f g))
  | .eql => some (mkB K 31 (subL f g))
  | .neq => some (mkB K 32 (subL f g))
  | _ => none

/-- an abstract block -/
inductive AO where
  | cells (cs : List Value) (elem : TypeId) (own : Nat × Nat)
  | dead
  /-- a variable of the program that nothing writes -/
  | fixed (cs : List Value)
  /-- behind a row: the room of the row before -/
  | room
  | loop (l : Loop)
  | deferred (ds : Option (List Deferred))
  /-- a map: keys, values, when they came in -/
  | map (es : List (Value × Value × Nat)) (clock : Nat)
  /-- a round of a map: the map, from when, what has been, when last -/
  | iter (m : Option Nat) (since : Nat) (seen : List Nat) (last : Nat)

/-- a finite map from numbers -/
inductive T where
  | leaf
  | node (l : T) (v : Option AO) (r : T)

noncomputable def T.getF : Nat → T → Nat → Option AO
  | 0, _, _ => none
  | _ + 1, .leaf, _ => none
  | d + 1, .node l v r, i => match i with
    | 0 => v
    | _ => bif i % 2 == 0 then l.getF d (i / 2 - 1) else r.getF d (i / 2)

noncomputable def T.setF : Nat → T → Nat → AO → T
  | 0, t, _, _ => t
  | d + 1, .leaf, i, o => match i with
    | 0 => .node .leaf (some o) .leaf
    | _ => bif i % 2 == 0 then .node (T.setF d .leaf (i / 2 - 1) o) none .leaf else .node .leaf none (T.setF d .leaf (i / 2) o)
  | d + 1, .node l v r, i, o => match i with
    | 0 => .node l (some o) r
    | _ => bif i % 2 == 0 then .node (l.setF d (i / 2 - 1) o) v r else .node l v (r.setF d (i / 2) o)

/-! the same, by the recursors themselves: these are what the kernel runs -/
noncomputable def getT (d : Nat) : T → Nat → Option AO :=
  Nat.rec (motive := fun _ => T → Nat → Option AO) (fun _ _ => none)
    (fun _ ih t => T.rec (motive := fun _ => Nat → Option AO) (fun _ => none)
      (fun l v r _ _ i => Nat.rec (motive := fun _ => Option AO) v (fun _ _ => Bool.rec (motive := fun _ => Option AO) (ih r (Nat.div i 2)) (ih l (Nat.pred (Nat.div i 2))) (Nat.beq (Nat.mod i 2) 0)) i) t) d
noncomputable def setT (d : Nat) : T → Nat → AO → T :=
  Nat.rec (motive := fun _ => T → Nat → AO → T) (fun t _ _ => t)
    (fun _ ih t => T.rec (motive := fun _ => Nat → AO → T)
      (fun i o => Nat.rec (motive := fun _ => T) (.node .leaf (some o) .leaf) (fun _ _ => Bool.rec (motive := fun _ => T) (.node .leaf none (ih .leaf (Nat.div i 2) o)) (.node (ih .leaf (Nat.pred (Nat.div i 2)) o) none .leaf) (Nat.beq (Nat.mod i 2) 0)) i)
      (fun l v r _ _ i o => Nat.rec (motive := fun _ => T) (.node l (some o) r) (fun _ _ => Bool.rec (motive := fun _ => T) (.node l v (ih r (Nat.div i 2) o)) (.node (ih l (Nat.pred (Nat.div i 2)) o) v r) (Nat.beq (Nat.mod i 2) 0)) i) t) d
noncomputable def getR (l : List Value) : Nat → Value :=
  List.rec (motive := fun _ => Nat → Value) (fun _ => undef) (fun x _ ih n => Nat.rec (motive := fun _ => Value) x (fun n _ => ih n) n) l
noncomputable def setR (l : List Value) : Nat → Value → List Value :=
  List.rec (motive := fun _ => Nat → Value → List Value) (fun _ _ => []) (fun x l ih n v => Nat.rec (motive := fun _ => List Value) (v :: l) (fun n _ => x :: ih n v) n) l

theorem beq2 (i : Nat) : Nat.beq (i % 2) 0 = (i % 2 == 0) := by
  cases h : i % 2 <;> simp [Nat.beq]
theorem getT_node (d : Nat) (l : T) (v : Option AO) (r : T) (i : Nat) : getT (d + 1) (.node l v r) (i + 1) = bif Nat.beq ((i + 1) % 2) 0 then getT d l ((i + 1) / 2 - 1) else getT d r ((i + 1) / 2) := by
  cases h : Nat.beq ((i + 1) % 2) 0 <;> (have h' : Nat.beq (Nat.mod (i + 1) 2) 0 = _ := h; unfold getT; simp only [h']; rfl)
theorem getT_eq : ∀ (d : Nat) (t : T) (i : Nat), getT d t i = t.getF d i
  | 0, t, i => by cases t <;> rfl
  | d + 1, .leaf, i => rfl
  | d + 1, .node l v r, 0 => rfl
  | d + 1, .node l v r, i + 1 => by
    rw [getT_node, getT_eq d, getT_eq d, beq2]; rfl
theorem setT_node (d : Nat) (l : T) (v : Option AO) (r : T) (i : Nat) (o : AO) : setT (d + 1) (.node l v r) (i + 1) o = bif Nat.beq ((i + 1) % 2) 0 then .node (setT d l ((i + 1) / 2 - 1) o) v r else .node l v (setT d r ((i + 1) / 2) o) := by
  cases h : Nat.beq ((i + 1) % 2) 0 <;> (have h' : Nat.beq (Nat.mod (i + 1) 2) 0 = _ := h; unfold setT; simp only [h']; rfl)
theorem setT_leaf (d : Nat) (i : Nat) (o : AO) : setT (d + 1) .leaf (i + 1) o = bif Nat.beq ((i + 1) % 2) 0 then .node (setT d .leaf ((i + 1) / 2 - 1) o) none .leaf else .node .leaf none (setT d .leaf ((i + 1) / 2) o) := by
  cases h : Nat.beq ((i + 1) % 2) 0 <;> (have h' : Nat.beq (Nat.mod (i + 1) 2) 0 = _ := h; unfold setT; simp only [h']; rfl)
theorem setT_eq : ∀ (d : Nat) (t : T) (i : Nat) (o : AO), setT d t i o = t.setF d i o
  | 0, t, i, o => by cases t <;> rfl
  | d + 1, .leaf, 0, o => rfl
  | d + 1, .leaf, i + 1, o => by
    rw [setT_leaf, setT_eq d, setT_eq d, beq2]; rfl
  | d + 1, .node l v r, 0, o => rfl
  | d + 1, .node l v r, i + 1, o => by
    rw [setT_node, setT_eq d, setT_eq d, beq2]; rfl
theorem getR_eq : ∀ (l : List Value) (n : Nat), getR l n = l.getD n undef
  | [], n => rfl
  | x :: l, 0 => rfl
  | x :: l, n + 1 => by
    show getR l n = _
    rw [getR_eq l n]; rfl

structure H where
  n : Nat
  t : T
  k : Facts

noncomputable def H.get (h : H) (i : Nat) : Option AO := bif Nat.blt i h.n then getT 20 h.t i else none
noncomputable def H.set (h : H) (i : Nat) (o : AO) : H := ⟨h.n, setT 20 h.t i o, h.k⟩
noncomputable def H.push (h : H) (o : AO) : H := ⟨h.n + 1, setT 20 h.t h.n o, h.k⟩
noncomputable def H.withK (h : H) (k : Facts) : H := ⟨h.n, h.t, k⟩

/-- items of an abstract frame -/
inductive AI where
  | code (c : Code)
  | inBlock (id : Nat)
  | inLoop (body : Code)
  | inScope (body : Code)
  | reg (ops : Array Oper) (todo : List Nat)
  | drawn (ops : Array Oper) (rest : List Nat) (fp : List (Nat × Nat)) (cur : Option Nat)
  | inRangeFunc (l : Nat)
  | endRangeFunc (l : Nat)
  | beginRound

structure AF where
  fn : FuncId
  tmps : List Value
  todo : List AI
  defers : List Deferred
  mode : FrameMode
  kind : CallKind
  roundOf : Option Nat

structure AM where
  fr : AF
  cs : List AF
  h : H

/-! values -/

noncomputable def okC : Value → Bool
  | .bool _ | .int .. | .string _ | .pointer none | .slice none .. | .nilFunc | .nilIface | .map none => true
  | _ => false

noncomputable def constOf (v : Value) : Value :=
  match v with
  | .bool _ | .int .. | .string _ | .pointer none | .slice none .. | .nilFunc | .nilIface | .map none => v
  | .agg cs => bif cs.all okC then v else bad
  | .tuple vs => bif vs.all okC then v else bad
  | _ => bad

noncomputable def ev (P : Program) (tmps : List Value) : Operand → Value
  | .tmp t => getR tmps t
  | .const v => constOf v
  | .global g => bif Nat.blt g P.globals.size then .pointer (some ⟨g, 0, none⟩) else bad
  | .func f => .func (.func f) #[] #[]

/-- may stand in one cell -/
noncomputable def cellB : Value → Bool
  | .agg _ | .tuple _ => false
  | .complex _ _ _ => false
  | _ => true

noncomputable def isAggB (P : Program) (t : TypeId) : Option Bool :=
  match P.underlying t with
  | some (.struct _) | some (.array _ _) => some true
  | some _ => some false
  | none => none

noncomputable def sizeA (P : Program) (t : TypeId) : Option Nat := (P.info? t).map (·.size)

/-- take exactly n -/
noncomputable def takeX : Nat → List Value → Option (List Value)
  | 0, _ => some []
  | n + 1, v :: l => match takeX n l with | some r => some (v :: r) | none => none
  | _ + 1, [] => none

noncomputable def rowOf : AO → Option (List Value)
  | .cells cs _ _ => some cs
  | .fixed cs => some cs
  | _ => none

noncomputable def loadA (P : Program) (h : H) (t : TypeId) : Value → Option (Value × List Nat)
  | .pointer (some ⟨b, o, none⟩) =>
    match (h.get b).bind rowOf with
    | some cs =>
      match isAggB P t with
      | some true => match sizeA P t with
        | some n => match takeX n (cs.drop o) with
          | some r => some (.agg ⟨r⟩, [b])
          | none => none
        | none => none
      | some false => match cs[o]? with
        | some v => bif cellB v then some (v, [b]) else none
        | none => none
      | none => none
    | _ => none
  | _ => none

noncomputable def partA (P : Program) (t : TypeId) (cs : Array Value) (off : Nat) : Option Value :=
  match isAggB P t with
  | some true => match sizeA P t with
    | some n => match takeX n (cs.toList.drop off) with
      | some r => some (.agg ⟨r⟩)
      | none => none
    | none => none
  | some false => cs.toList[off]?
  | none => none

/-- field by field -/
noncomputable def eqFs (P : Program) (eq : TypeId → Value → Value → Option Bool) (xs ys : Array Value) : List Field → Option Bool
  | [] => some true
  | f :: fs => bif f.name == "_" then eqFs P eq xs ys fs else match partA P f.type xs f.offset, partA P f.type ys f.offset with
    | some a, some b => match eq f.type a b with
      | some true => eqFs P eq xs ys fs
      | some false => some false
      | none => none
    | _, _ => none

/-- element by element -/
noncomputable def eqIs (P : Program) (eq : TypeId → Value → Value → Option Bool) (e : TypeId) (c : Nat) (xs ys : Array Value) : List Nat → Option Bool
  | [] => some true
  | i :: is => match partA P e xs (i * c), partA P e ys (i * c) with
    | some a, some b => match eq e a b with
      | some true => eqIs P eq e c xs ys is
      | some false => some false
      | none => none
    | _, _ => none

noncomputable def strEq (x y : ByteArray) : Bool := x.data.toList == y.data.toList

/-- equality -/
noncomputable def eqA : Nat → Program → TypeId → Value → Value → Option Bool
  | 0, _, _, _, _ => none
  | n + 1, P, t, x, y =>
    match P.underlying t, x, y with
    | some .bool, .bool a, .bool b => some (a == b)
    | some (.int _), .int k a, .int k' b => bif k == k' then some (a == b) else none
    | some .string, .string a, .string b => some (strEq a b)
    | some (.pointer _), .pointer none, .pointer b => some b.isNone
    | some (.pointer _), .pointer _, .pointer none => some false
    | some (.slice _), .slice none _ _, .slice b _ _ => some b.isNone
    | some (.slice _), .slice _ _ _, .slice none _ _ => some false
    | some (.map _ _), .map none, .map b => some b.isNone
    | some (.map _ _), .map _, .map none => some false
    | some (.struct fs), .agg xs, .agg ys => bif P.stoodInHeld t then none else eqFs P (eqA n P) xs ys fs.toList
    | some (.array len e), .agg xs, .agg ys => match P.info? e with
      | some i => eqIs P (eqA n P) e i.size xs ys (List.range len)
      | none => none
    | some (.func _ _ _), .nilFunc, .nilFunc => some true
    | some (.func _ _ _), .nilFunc, .func (.func _) _ _ => some false
    | some (.func _ _ _), .func (.func _) _ _, .nilFunc => some false
    | some (.pointer el), .pointer (some ⟨b, o, none⟩), .pointer (some ⟨b', o', none⟩) => match sizeA P el with
      | some (_ + 1) => bif Nat.beq b b' then some (Nat.beq o o') else none
      | _ => none
    | _, _, _ => none

noncomputable def intBin (op : BinOp) (k : IntKind) (a b : Int) : Option Value :=
  match op with
  | .add => some (.int k (k.wrap (a + b)))
  | .sub => some (.int k (k.wrap (a - b)))
  | .mul => some (.int k (k.wrap (a * b)))
  | .quo => bif b == 0 then none else some (.int k (k.wrap (a.tdiv b)))
  | .rem => bif b == 0 then none else some (.int k (a.tmod b))
  | .and => some (.int k (k.wrap (BitVec.ofInt k.bits a &&& BitVec.ofInt k.bits b).toNat))
  | .or => some (.int k (k.wrap (BitVec.ofInt k.bits a ||| BitVec.ofInt k.bits b).toNat))
  | .xor => some (.int k (k.wrap (BitVec.ofInt k.bits a ^^^ BitVec.ofInt k.bits b).toNat))
  | .andNot => some (.int k (k.wrap (BitVec.ofInt k.bits a &&& ~~~ BitVec.ofInt k.bits b).toNat))
  | .eql => some (.bool (a == b))
  | .neq => some (.bool (a != b))
  | .lss => some (.bool (decide (a < b)))
  | .leq => some (.bool (decide (a ≤ b)))
  | .gtr => some (.bool (decide (a > b)))
  | .geq => some (.bool (decide (a ≥ b)))
  | _ => none

noncomputable def strBin (op : BinOp) (x y : ByteArray) : Option Value :=
  let eq := strEq x y
  let lt := Op.bytesLess x.data.toList y.data.toList
  match op with
  | .add => bif Nat.ble (x.size + y.size) 1000000 then some (.string ⟨⟨x.data.toList ++ y.data.toList⟩⟩) else none
  | .eql => some (.bool eq)
  | .neq => some (.bool !eq)
  | .lss => some (.bool lt)
  | .leq => some (.bool (lt || eq))
  | .gtr => some (.bool !(lt || eq))
  | .geq => some (.bool !lt)
  | _ => none

/-- a number of which only the kind is known -/
noncomputable def kindOf : Value → Option IntKind
  | .int k _ => some k
  | .chan (some a) => kOf a
  | _ => none

noncomputable def topBin (op : BinOp) (x y : Value) : Option Value :=
  match op with
  | .add | .sub | .mul | .and | .or | .xor | .andNot => match kindOf x, kindOf y with
    | some j, some k => bif j == k then some (topI j) else none
    | _, _ => none
  | .quo | .rem => match kindOf x, y with
    | some j, .int k n => bif j == k && !(n == 0) then some (topI j) else none
    | _, _ => none
  | .shl | .shr => match kindOf x, y with
    | some j, .int _ n => bif decide (n < 0) then none else some (topI j)
    | _, _ => none
  | _ => none

noncomputable def binA (P : Program) (op : BinOp) (t : TypeId) (x y : Value) : Option Value :=
  match x, y with
  | .int k a, .int k' b =>
    match op with
    | .shl => bif decide (b < 0) then none else some (.int k (k.wrap (a * 2 ^ (min b.toNat k.bits))))
    | .shr => bif decide (b < 0) then none else some (.int k (a.fdiv (2 ^ (min b.toNat k.bits))))
    | op => bif k == k' then intBin op k a b else none
  | .string a, .string b => strBin op a b
  | .agg xs, .agg ys => bif P.eqGuardType P.depth t then none else match op with
    | .eql => match eqA 10 P t (.agg xs) (.agg ys) with | some b => some (.bool b) | none => none
    | .neq => match eqA 10 P t (.agg xs) (.agg ys) with | some b => some (.bool !b) | none => none
    | _ => none
  | .agg _, _ => none
  | .chan a, y => topBin op (.chan a) y
  | x, .chan a => topBin op x (.chan a)
  | x, y => match op with
    | .eql => match eqA 10 P t x y with | some b => some (.bool b) | none => none
    | .neq => match eqA 10 P t x y with | some b => some (.bool !b) | none => none
    | _ => none

noncomputable def unA (op : UnOp) (x : Value) : Option Value :=
  match op, x with
  | .neg, .int k n => some (.int k (k.wrap (0 - n)))
  | .xor, .int k n => intBin .xor k (if k.signed then -1 else k.max) n
  | .not, .bool b => some (.bool !b)
  | .not, .chan (some 22) => some (.chan (some 22))
  | _, _ => none

noncomputable def bytesOf : List Value → Option (List UInt8)
  | [] => some []
  | .int .u8 n :: l => match bytesOf l with | some r => some (UInt8.ofNat n.toNat :: r) | none => none
  | _ => none

noncomputable def convA (P : Program) (h : H) (src dst : TypeId) (x : Value) : Option (Value × List Nat) :=
  match x with
  | .int _ n => match P.underlying dst with
    | some (.int k) => some (.int k (k.wrap n), [])
    | _ => none
  | .chan (some a) => match kOf a, P.underlying dst with
    | some _, some (.int k) => some (topI k, [])
    | _, _ => none
  | .string _ => match P.underlying src, P.underlying dst with
    | some .string, some .string => some (x, [])
    | _, _ => none
  | .slice a n _ => match P.underlying src, P.underlying dst with
    | some (.slice e), some .string => match P.underlying e with
      | some (.int .u8) => match a with
        | none => some (.string .empty, [])
        | some ⟨b, o, none⟩ => match (h.get b).bind rowOf with
          | some cs => match takeX n (cs.drop o) with
            | some r => match bytesOf r with
              | some l => some (.string ⟨⟨l⟩⟩, [b])
              | none => none
            | none => none
          | _ => none
        | _ => none
      | _ => none
    | _, _ => none
  | _ => none

noncomputable def natOf : Value → Option Nat
  | .int _ (.ofNat n) => some n
  | _ => none

noncomputable def boundA (v : Option Value) (d y : Nat) : Option Nat :=
  match v with
  | none => some d
  | some v => match natOf v with
    | some i => bif Nat.ble i y then some i else none
    | none => none

noncomputable def addrAdd (b o n : Nat) : Addr := ⟨b, o + n, none⟩

noncomputable def boundsA (len cap : Nat) (lo hi mx : Option Value) : Option (Nat × Nat × Nat) :=
  bif mx.isSome && hi.isNone then none else
  match boundA mx cap cap with
  | some m => match boundA hi len m with
    | some h => match boundA lo 0 h with
      | some l => some (l, h, m)
      | none => none
    | none => none
  | none => none

noncomputable def mkS (b o s l h m : Nat) : Option Value :=
  bif isU (m - l) then none else some (.slice (some (bif Nat.beq m l then ⟨b, o, none⟩ else addrAdd b o (l * s))) (h - l) (m - l))

noncomputable def sliceA (P : Program) (t : TypeId) (x : Value) (lo hi mx : Option Value) : Option Value :=
  match P.underlying t with
  | some (.array n e) => match x, sizeA P e with
    | .pointer (some ⟨b, o, none⟩), some s => match boundsA n n lo hi mx with
      | some (l, h, m) => mkS b o s l h m
      | none => none
    | _, _ => none
  | some .string => match x with
    | .string s => match mx with
      | some _ => none
      | none => match boundsA s.size s.size lo hi none with
        | some (l, h, _) => some (.string ⟨⟨(s.data.toList.drop l).take (h - l)⟩⟩)
        | none => none
    | _ => none
  | some (.slice e) => match sizeA P e with
    | some s => match x with
      | .slice none 0 0 => match boundsA 0 0 lo hi mx with
        | some _ => some (.slice none 0 0)
        | none => none
      | .slice (some ⟨b, o, none⟩) n c =>
        bif isU c then match mx with
          | none => match boundsA n (lbC n c) lo hi none with
            | some (l, h, _) => some (.slice (some (addrAdd b o (l * s))) (h - l) (unkK (lbC n c - l)))
            | none => none
          | some _ => match boundsA n n lo hi mx with
            | some (l, h, m) => bif Nat.beq n 0 then some (.slice (some ⟨b, o, none⟩) 0 unk) else mkS b o s l h m
            | none => none
        else match boundsA n c lo hi mx with
          | some (l, h, m) => mkS b o s l h m
          | none => none
      | _ => none
    | none => none
  | some (.pointer arr) => match P.underlying arr with
    | some (.array n e) => match x, sizeA P e with
      | .pointer (some ⟨b, o, none⟩), some s => match mx with
        | some _ => none
        | none => match boundsA n n lo hi none with
          | some (l, h, m) => mkS b o s l h m
          | none => none
      | _, _ => none
    | _ => none
  | _ => none

noncomputable def allCell (l : List Value) : Bool := l.all cellB

noncomputable def notBad : Value → Bool
  | .complex _ _ _ => false
  | _ => true

noncomputable def buildA (P : Program) (t : TypeId) (parts : List (Nat × Value)) : Option Value :=
  bif parts.all fun p => notBad p.2 then
    match P.info? t, P.underlying t with
    | some it, some (.array _ e) =>
      match it.zero, P.info? e with
      | some z, some ie => bif notBad (constOf z) then (match Instr.fill (fun i => some (i * ie.size, ie.size)) (constOf z).cells parts with
        | some cs => some (.agg cs)
        | none => none) else none
      | _, _ => none
    | some it, some (.struct fields) =>
      match it.zero, fields.toList.mapM (fun f => (P.info? f.type).map fun i => (f.offset, i.size)) with
      | some z, some places => bif notBad (constOf z) then (match Instr.fill (places.toArray[·]?) (constOf z).cells parts with
        | some cs => some (.agg cs)
        | none => none) else none
      | _, _ => none
    | _, _ => none
  else none

noncomputable def isIfaceT (P : Program) (t : TypeId) : Bool := match P.underlying t with
  | some (.interface _) => true
  | none => true
  | _ => false

noncomputable def failsA (P : Program) (t : TypeId) (ok : Bool) : Option Value :=
  bif ok then match (P.info? t).bind (·.zero) with
    | some z => some (.tuple #[constOf z, .bool false])
    | none => none
  else none

noncomputable def assertA (P : Program) (t : TypeId) (ok : Bool) (x : Value) : Option Value :=
  bif isIfaceT P t then none else match x with
  | .iface u v => bif Nat.beq u t then some (bif ok then .tuple #[v, .bool true] else v) else failsA P t ok
  | .nilIface => failsA P t ok
  | _ => none

noncomputable def lenA (P : Program) (t : TypeId) (x : Value) : Option Value :=
  match P.underlying t with
  | some .string => match x with
    | .string s => some (goInt s.size)
    | .chan (some 20) => some (topI .i64)
    | _ => none
  | some (.array n _) => some (goInt n)
  | some (.slice _) => match x with
    | .slice _ n _ => some (goInt n)
    | .chan (some 21) => some (topI .i64)
    | _ => none
  | _ => none

noncomputable def min2A (mx : Bool) (x y : Value) : Option Value := match x, y with
  | .int k a, .int k' b => bif k == k' then some (.int k (bif mx then (if b > a then b else a) else (if b < a then b else a))) else none
  | _, _ => none
noncomputable def minL (mx : Bool) (x : Value) (l : List Value) : Option Value := match l with
  | [] => some x
  | y :: l => match min2A mx x y with
    | some z => minL mx z l
    | none => none
noncomputable def minA (mx : Bool) (l : List Value) : Option Value := match l with
  | [] => none
  | x :: l => minL mx x l

noncomputable def capA (P : Program) (t : TypeId) (x : Value) : Option Value :=
  match P.underlying t with
  | some (.slice _) => match x with
    | .slice a n c => some (bif isU c then topI .i64 else goInt c)
    | _ => none
  | _ => none

/-- where a slice's memory begins -/
noncomputable def sdataA (xs : List Value) : Option Value :=
  match xs with
  | [.slice none _ _] => some (.pointer none)
  | [.slice (some ⟨b, o, none⟩) n c] => bif isU c then (bif Nat.blt 0 (lbC n c) then some (.pointer (some ⟨b, o, none⟩)) else none) else (bif Nat.blt 0 c then some (.pointer (some ⟨b, o, none⟩)) else none)
  | _ => none

noncomputable def builtinA (P : Program) (b : Builtin) (ts : List TypeId) (xs : List Value) : Option Value :=
  match b with
  | .len => match ts, xs with
    | [t], [x] => lenA P t x
    | _, _ => none
  | .cap => match ts, xs with
    | [t], [x] => capA P t x
    | _, _ => none
  | .min => minA false xs
  | .max => minA true xs
  | .unsafeSliceData => sdataA xs
  | _ => none

/-! maps -/
/-- keys that are alike; none: it can't be told -/
noncomputable def keyEq : Value → Value → Option Bool
  | .int k a, .int k' b => bif k == k' then some (a == b) else none
  | .string a, .string b => some (strEq a b)
  | .bool a, .bool b => some (a == b)
  | _, _ => none
noncomputable def keyT (P : Program) (t : TypeId) (k : Value) : Bool := match P.underlying t, k with
  | some (.int _), .int _ _ => true
  | some .string, .string _ => true
  | some .bool, .bool _ => true
  | _, _ => false
/-- fields that are compared as they lie -/
noncomputable def plainF (P : Program) (cs : Array Value) (f : Field) : Bool := match partA P f.type cs f.offset, P.underlying f.type with
  | some v, some (.int _) | some v, some .string | some v, some .bool => okC v
  | _, _ => false
noncomputable def plainI (P : Program) (cs : Array Value) (e : TypeId) (c i : Nat) : Bool := match partA P e cs (i * c), P.underlying e with
  | some v, some (.int _) | some v, some .string | some v, some .bool => okC v
  | _, _ => false
noncomputable def keyS (P : Program) (t : TypeId) (k : Value) : Bool := match P.underlying t, k with
  | some (.struct fs), .agg cs => cs.toList.all okC && fs.toList.all (plainF P cs)
  | some (.array len e), .agg cs => match P.info? e with
    | some i => cs.toList.all okC && (List.range len).all (plainI P cs e i.size)
    | none => false
  | _, _ => false
/-- how keys are compared -/
noncomputable def keyK (P : Program) (t : TypeId) (k : Value) : Option (Value → Value → Option Bool) :=
  bif keyT P t k then some keyEq else bif keyS P t k then some (eqA 10 P t) else none
noncomputable def sameL : List Value → List Value → Bool
  | [], [] => true
  | x :: a, y :: b => match keyEq x y with
    | some true => sameL a b
    | _ => false
  | _, _ => false
/-- the same bits -/
noncomputable def sameK : Value → Value → Bool
  | .agg a, .agg b => sameL a.toList b.toList
  | x, y => match keyEq x y with
    | some true => true
    | _ => false
noncomputable def findE (eq : Value → Value → Option Bool) (k : Value) : List (Value × Value × Nat) → Nat → Option (Option (Nat × Value))
  | [], _ => some none
  | (k', v, _) :: es, i => match eq k k' with
    | some true => some (some (i, v))
    | some false => findE eq k es (i + 1)
    | none => none
noncomputable def lookE (P : Program) (kt et : TypeId) (es : List (Value × Value × Nat)) (k : Value) (ok : Bool) : Option Value :=
  match keyK P kt k with
  | some eq => match findE eq k es 0 with
    | some (some (_, v)) => some (bif ok then .tuple #[v, .bool true] else v)
    | some none => match (P.info? et).bind (·.zero) with
      | some z => some (bif ok then .tuple #[constOf z, .bool false] else constOf z)
      | none => none
    | none => none
  | none => none
noncomputable def keyAt : List (Value × Value × Nat) → Nat → Value
  | [], _ => undef
  | (k, _, _) :: _, 0 => k
  | _ :: es, i + 1 => keyAt es i
noncomputable def setE : List (Value × Value × Nat) → Nat → Value → Value → List (Value × Value × Nat)
  | [], _, _, _ => []
  | (_, _, b) :: es, 0, k, v => (k, v, b) :: es
  | e :: es, i + 1, k, v => e :: setE es i k v
noncomputable def delE : List (Value × Value × Nat) → Nat → List (Value × Value × Nat)
  | [], _ => []
  | _ :: es, 0 => es
  | e :: es, i + 1 => e :: delE es i
noncomputable def updE (P : Program) (kt : TypeId) (es : List (Value × Value × Nat)) (clock : Nat) (k v : Value) : Option (List (Value × Value × Nat) × Nat) :=
  match keyK P kt k with
  | some eq => match findE eq k es 0 with
    | some (some (i, _)) => bif sameK (keyAt es i) k then some (setE es i k v, clock) else none
    | some none => some (es ++ [(k, v, clock)], clock + 1)
    | none => none
  | none => none
noncomputable def outE (P : Program) (kt : TypeId) (es : List (Value × Value × Nat)) (k : Value) : Option (List (Value × Value × Nat)) :=
  match keyK P kt k with
  | some eq => match findE eq k es 0 with
    | some (some (i, _)) => some (delE es i)
    | some none => some es
    | none => none
  | none => none

noncomputable def mapT (P : Program) (t : TypeId) : Option (TypeId × TypeId) := match P.underlying t with
  | some (.map k e) => some (k, e)
  | _ => none
noncomputable def entries : AO → Option (List (Value × Value × Nat) × Nat)
  | .map es c => some (es, c)
  | _ => none

noncomputable def lookA (P : Program) (h : H) (t : TypeId) (x k : Value) (ok : Bool) : Option (Value × List Nat) :=
  match mapT P t with
  | some (kt, et) => match x with
    | .map none => match lookE P kt et [] k ok with
      | some v => some (v, [])
      | none => none
    | .map (some b) => match (h.get b).bind entries with
      | some (es, _) => match lookE P kt et es k ok with
        | some v => some (v, [b])
        | none => none
      | none => none
    | _ => none
  | none => none

noncomputable def mlenA (P : Program) (h : H) (b : Builtin) (ts : List TypeId) (xs : List Value) : Option (Value × List Nat) :=
  match b, ts, xs with
  | .len, [t], [x] => match mapT P t with
    | some _ => match x with
      | .map none => some (goInt 0, [])
      | .map (some b) => match (h.get b).bind entries with
        | some (es, _) => some (goInt es.length, [b])
        | none => none
      | _ => none
    | none => none
  | _, _, _ => none

/-- operations that only yield a value: the value, and the blocks that were read -/
noncomputable def valA (P : Program) (h : H) (E : Operand → Value) (o : Oper) : Option (Value × List Nat) :=
  match o.op with
  | .move x | .assign x => some (E x, [])
  | .pick c a b => match E c with
    | .bool true => some (E a, [])
    | .bool false => some (E b, [])
    | _ => none
  | .build t parts => match buildA P t (parts.toList.map fun p => (p.1, E p.2)) with
    | some v => some (v, [])
    | none => none
  | .load t a => loadA P h t (E a)
  | .nilCheck x => match E x with
    | .pointer (some a) => some (.pointer (some a), [])
    | .func (.func f) a b => some (.func (.func f) a b, [])
    | .func (.yield f) a b => some (.func (.yield f) a b, [])
    | _ => none
  | .binOp op t x y _ => match binA P op t (E x) (E y) with
    | some v => some (v, [])
    | none => none
  | .unOp op _ x => match unA op (E x) with
    | some v => some (v, [])
    | none => none
  | .convert src dst x => bif (P.underlying src).isSome then convA P h src dst (E x) else none
  | .makeInterface t x => match P.underlying t with
    | some (.interface _) => none
    | some _ => some (.iface t (E x), [])
    | none => none
  | .makeFunc fn first captured => match fn with
    | .func f => some (.func (.func f) (first.map E) (captured.map E), [])
    | _ => none
  | .slice t x lo hi mx => match sliceA P t (E x) (lo.map E) (hi.map E) (mx.map E) with
    | some v => some (v, [])
    | none => none
  | .fieldAddr s x f => match P.underlying s with
    | some (.struct fs) => match fs[f]? with
      | some fd => match E x, sizeA P fd.type with
        | .pointer (some ⟨b, off, none⟩), some (_ + 1) => some (.pointer (some (addrAdd b off fd.offset)), [])
        | _, _ => none
      | none => none
    | _ => none
  | .field t x f => match P.underlying t with
    | some (.struct fs) => match fs[f]? with
      | some fd => match E x with
        | .agg cs => match partA P fd.type cs fd.offset with
          | some v => some (v, [])
          | none => none
        | _ => none
      | none => none
    | _ => none
  | .indexAddr t x ix => match natOf (E ix) with
    | some i => match P.underlying t, E x with
      | some (.array n e), .pointer (some ⟨b, off, none⟩) => match sizeA P e with
        | some s => bif Nat.blt i n then some (.pointer (some (addrAdd b off (i * s))), []) else none
        | none => none
      | some (.slice e), .slice (some ⟨b, off, none⟩) n _ => match sizeA P e with
        | some s => bif Nat.blt i n then some (.pointer (some (addrAdd b off (i * s))), []) else none
        | none => none
      | _, _ => none
    | none => none
  | .index t x ix => match natOf (E ix) with
    | some i => match P.underlying t, E x with
      | some (.array n e), .agg cs => match sizeA P e with
        | some s => bif Nat.blt i n then match partA P e cs (i * s) with | some v => some (v, []) | none => none else none
        | none => none
      | some .string, .string s => match s.data.toList[i]? with
        | some b => some (.int .u8 b.toNat, [])
        | none => none
      | _, _ => none
    | none => none
  | .extract t ix => match E t with
    | .tuple vs => match vs.toList[ix]? with
      | some v => some (v, [])
      | none => none
    | _ => none
  | .typeAssert x _ t ok => match assertA P t ok (E x) with
    | some v => some (v, [])
    | none => none
  | .call c => match c.callee with
    | .builtin b => match builtinA P b c.argTypes.toList (c.args.toList.map E) with
      | some v => some (v, [])
      | none => mlenA P h b c.argTypes.toList (c.args.toList.map E)
    | _ => none
  | .sliceToArrayPointer t x => match P.underlying t, E x with
    | some (.array n _), .slice (some ⟨b, off, none⟩) len _ => bif Nat.ble 1 len then (bif Nat.ble n len then some (.pointer (some ⟨b, off, none⟩), []) else none) else none
    | _, _ => none
  | .lookup t x ix ok => lookA P h t (E x) (E ix) ok
  | _ => none

noncomputable def repl (n : Nat) (z : List Value) : List Value := match n with
  | 0 => []
  | n + 1 => z ++ repl n z

/-- operations that make one block: its cells, its element type, the value -/
noncomputable def newA (P : Program) (E : Operand → Value) (o : Oper) : Option (List Value × TypeId × (Nat → Value)) :=
  match o.op with
  | .alloc e => match (P.info? e).bind (·.zero) with
    | some z => let cs := (constOf z).cells.toList; bif allCell cs then some (cs, e, fun b => .pointer (some ⟨b, 0, none⟩)) else none
    | none => none
  | .box e x => let cs := (E x).cells.toList; bif allCell cs then some (cs, e, fun b => .pointer (some ⟨b, 0, none⟩)) else none
  | .buildSlice t n parts => match P.underlying t with
    | some (.slice e) => match P.info? e with
      | some i => match i.zero with
        | some z => bif Nat.ble (n * i.size) 16777216 && Nat.ble n 16777216 then
            match Instr.fill (fun j => some (j * i.size, i.size)) ⟨repl n (constOf z).cells.toList⟩ (parts.toList.map fun p => (p.1, E p.2)) with
            | some cs => bif allCell cs.toList && Nat.beq (constOf z).cells.size i.size && notBad (constOf z) && (parts.toList.all fun p => notBad (E p.2)) then some (cs.toList, e, fun b => .slice (some ⟨b, 0, none⟩) n n) else none
            | none => none
          else none
        | none => none
      | none => none
    | _ => none
  | .makeSlice t l c => match natOf (E l), natOf (E c), P.underlying t with
    | some l, some c, some (.slice e) => match P.info? e with
      | some i => match i.zero with
        | some z => bif Nat.ble l c && Nat.ble c 1000000 && Nat.ble i.bytes 1000000 && Nat.beq (constOf z).cells.size i.size && allCell (constOf z).cells.toList then
            some (repl c (constOf z).cells.toList, e, fun b => .slice (some ⟨b, 0, none⟩) l c)
          else none
        | none => none
      | none => none
    | _, _, _ => none
  | .convert src dst x => match P.underlying src, P.underlying dst, E x with
    | some .string, some (.slice e), .string s => match P.underlying e with
      | some (.int .u8) => some (s.data.toList.map fun b => .int .u8 b.toNat, e, fun b => .slice (some ⟨b, 0, none⟩) s.size unk)
      | _ => none
    | _, _, _ => none
  | _ => none

noncomputable def setAll : List Value → Nat → List Value → List Value
  | cs, _, [] => cs
  | cs, o, v :: l => setAll (cs.set o v) (o + 1) l

/-- what an operation with an effect comes to -/
inductive AN where
  | val (v : Value) (h : H)
  | enter (f : FuncId) (args : Array Value)
  | round (l : Nat) (args : Array Value)
  | panic (v : Value)
  | defer (d : Deferred)
  | recover

/-- may this block be written? no region that draws has read it ahead -/
noncomputable def fpHas (b : Nat) : List (Nat × Nat) → Bool
  | [] => false
  | (_, c) :: l => bif Nat.beq c b then true else fpHas b l

noncomputable def freeOf (b : Nat) : List AF → Bool
  | [] => true
  | f :: fs => (match f.todo with | .drawn _ _ fp _ :: _ => !fpHas b fp | _ => true) && freeOf b fs

noncomputable def storeA (P : Program) (h : H) (fs : List AF) (t : TypeId) (a v : Value) : Option H :=
  match a with
  | .pointer (some ⟨b, o, none⟩) => match h.get b with
    | some (.cells cs e own) => match sizeA P t with
      | some n =>
        let vs := v.cells.toList
        bif Nat.beq vs.length n && allCell vs && Nat.ble (o + n) cs.length && freeOf b fs then some (h.set b (.cells (setAll cs o vs) e own)) else none
      | none => none
    | _ => none
  | _ => none

/-- the cells of what is appended or copied -/
noncomputable def srcA (h : H) (size : Nat) (x : Value) : Option (Nat × List Value) :=
  match x with
  | .string s => bif Nat.beq size 1 then some (s.size, s.data.toList.map fun b => .int .u8 b.toNat) else none
  | .slice none n _ => bif Nat.beq n 0 then some (0, []) else none
  | .slice (some ⟨b, o, none⟩) n _ => match (h.get b).bind rowOf with
    | some cs => match takeX (n * size) (cs.drop o) with
      | some r => some (n, r)
      | none => none
    | _ => none
  | _ => none

/-- a row of the machine's own, and its room -/
noncomputable def rowA (h : H) (cs : List Value) (e : TypeId) (n : Nat) : Value × H :=
  (.slice (some ⟨h.n, 0, none⟩) n unk2, (h.push (.cells cs e (7777777, 0))).push .room)

noncomputable def isIntT (P : Program) (t : TypeId) : Bool := match P.underlying t with
  | some (.int _) => true
  | none => true
  | _ => false

noncomputable def appOk (i : TypeInfo) (n : Nat) (new : List Value) : Bool :=
  match i.zero with
  | some z => Nat.ble n 1000000 && Nat.ble i.bytes 1000000 && Nat.beq z.cells.size i.size && allCell new
  | none => false

noncomputable def roomAt (h : H) (b : Nat) : Bool := match h.get b with
  | some .room => true
  | _ => false

/-- zeros behind a slice that is nil -/
noncomputable def appZT (P : Program) (ts : List TypeId) (s x : Value) : Option (List Value × TypeId × Nat) :=
  match ts, s, natOf x with
  | [t, t2], .slice none 0 0, some n => match P.underlying t, P.underlying t2 with
    | some (.slice e), some (.int _) => match P.info? e with
      | some i => match i.zero with
        | some z => bif Nat.ble n 65536 && Nat.blt 0 n && Nat.ble i.bytes 1000000 && Nat.blt 0 i.size && Nat.beq (constOf z).cells.size i.size && allCell (constOf z).cells.toList then some (repl n (constOf z).cells.toList, e, n) else none
        | none => none
      | none => none
    | _, _ => none
  | _, _, _ => none

noncomputable def appendA (P : Program) (h : H) (fs : List AF) (ts : List TypeId) (s x : Value) : Option (Value × H) :=
  match ts with
  | [t, t2] => bif isIntT P t2 then (match appZT P [t, t2] s x with
      | some q => some (rowA h q.1 q.2.1 q.2.2)
      | none => none) else match P.underlying t with
    | some (.slice e) => match P.info? e with
      | some i => match srcA h i.size x with
        | some (n, new) =>
          bif !appOk i n new then none else match s with
          | .slice none 0 0 => bif Nat.beq n 0 then some (.slice none 0 0, h) else some (rowA h new e n)
          | .slice (some ⟨b, o, none⟩) m c => match h.get b with
            | some (.cells cs e' own) => match takeX (m * i.size) (cs.drop o) with
              | some old =>
                bif !(Nat.ble m 1000000 && allCell old) then none else
                bif Nat.beq c unk2 then
                  -- in place or not: the block that was has gone
                  bif Nat.beq o 0 && Nat.beq e e' && freeOf b fs && roomAt h (b + 1) then
                    some (rowA (h.set b .dead) (old ++ new) e (m + n))
                  else none
                else bif isU c then
                  bif Nat.ble 1 (lbC m c) && Nat.ble (m + n) (lbC m c) && Nat.ble (o + (m + n) * i.size) cs.length && freeOf b fs then
                    some (.slice (some ⟨b, o, none⟩) (m + n) c, h.set b (.cells (setAll cs (o + m * i.size) new) e' own))
                  else none
                else bif Nat.ble (m + n) c then
                  bif Nat.ble (o + (m + n) * i.size) cs.length && freeOf b fs then
                    some (.slice (some ⟨b, o, none⟩) (m + n) c, h.set b (.cells (setAll cs (o + m * i.size) new) e' own))
                  else none
                else bif Nat.ble c 1000000 then some (rowA h (old ++ new) e (m + n)) else none
              | none => none
            | _ => none
          | _ => none
        | none => none
      | none => none
    | _ => none
  | _ => none

noncomputable def copyA (P : Program) (h : H) (fs : List AF) (ts : List TypeId) (d x : Value) : Option (Value × H) :=
  match ts with
  | t :: _ => match P.underlying t with
    | some (.slice e) => match sizeA P e, d with
      | some size, .slice base m _ => match srcA h size x with
        | some (n, new) =>
          let k := Nat.min n m
          match base with
          | none => bif Nat.beq k 0 then some (goInt k, h) else none
          | some ⟨b, o, none⟩ => match takeX (k * size) new, h.get b with
            | some vs, some (.cells cs e own) =>
              bif allCell vs && Nat.ble (o + k * size) cs.length && freeOf b fs then some (goInt k, h.set b (.cells (setAll cs o vs) e own)) else none
            | _, _ => none
          | _ => none
        | none => none
      | _, _ => none
    | _ => none
  | _ => none

/-- a slice is cleared -/
noncomputable def clearA (P : Program) (h : H) (fs : List AF) (ts : List TypeId) (x : Value) : Option H :=
  match ts with
  | t :: _ => match P.underlying t with
    | some (.slice e) => match P.info? e with
      | some i => match i.zero with
        | some z => match x with
          | .slice none _ _ => some h
          | .slice (some ⟨b, o, none⟩) n _ => bif Nat.beq n 0 then some h else match h.get b with
            | some (.cells cs e' own) =>
              bif Nat.ble n 1000000 && allCell (constOf z).cells.toList && notBad (constOf z) && Nat.ble (o + n * (constOf z).cells.toList.length) cs.length && freeOf b fs then
                some (h.set b (.cells (setAll cs o (repl n (constOf z).cells.toList)) e' own))
              else none
            | _ => none
          | _ => none
        | none => none
      | none => none
    | _ => none
  | [] => none

noncomputable def hasBody (P : Program) (f : FuncId) : Bool :=
  match P.funcs[f]? with
  | some fn => fn.body.isSome && fn.name != "runtime.NumGoroutine"
  | none => false

/-- a function without a body, of values that are known -/
noncomputable def extV (P : Program) (g : FuncId) (args : List Value) : Option Value :=
  match P.funcs[g]? with
  | some fn => bif fn.body.isNone && fn.name != "runtime.NumGoroutine" && (Extern.findNext fn).isNone && args.all okC then
      match Extern.find fn with
      | some e => match e ⟨args⟩ with
        | .pure v => bif okC v then some v else none
        | _ => none
      | none => none
    else none
  | none => none

/-- a function that hands back its argument -/
noncomputable def sameA (P : Program) (g : FuncId) (args : List Value) : Option Value :=
  match P.funcs[g]? with
  | some fn => bif fn.body.isNone && fn.name != "runtime.NumGoroutine" && (Extern.findNext fn).isNone && fn.name == "internal/abi.NoEscape" then match args with
      | [x] => some x
      | _ => none
    else none
  | none => none
noncomputable def extA (P : Program) (g : FuncId) (args : List Value) : Option Value :=
  match extV P g args with
  | some v => some v
  | none => sameA P g args

/-- a row of bytes that are not known -/
noncomputable def mnzT (P : Program) (g : FuncId) (args : List Value) : Option (List Value × TypeId × Nat) :=
  match P.funcs[g]?, args with
  | some fn, [.int .i64 (.ofNat n)] => bif fn.body.isNone && fn.name != "runtime.NumGoroutine" && (Extern.findNext fn).isNone && fn.name == "internal/bytealg.MakeNoZero" && Nat.ble n 65536 then
      match fn.resultTypes[0]? with
      | some t => match P.underlying t with
        | some (.slice e) => match sizeA P e with
          | some 1 => some (List.replicate n (topI .u8), e, n)
          | _ => none
        | _ => none
      | none => none
    else none
  | _, _ => none

/-- a pointer turned into an unsafe one and back -/
noncomputable def uconvA (P : Program) (h : H) (src dst : TypeId) (x : Value) : Option Value :=
  match P.underlying src, P.underlying dst, x with
  | some (.pointer t), some .unsafePointer, .pointer (some ⟨b, o, none⟩) => match sizeA P t, h.get b with
    | some (_ + 1), some (.cells cs _ _) => bif Nat.blt o cs.length then some x else none
    | _, _ => none
  | some .unsafePointer, some (.pointer u), .pointer (some ⟨b, o, none⟩) => match h.get b with
    | some (.cells cs e own) => bif !(Nat.beq own.1 7777777) && Nat.beq o 0 && Nat.beq e u && Nat.blt 0 (P.cellsOf e) && Nat.ble (P.cellsOf e) cs.length && Nat.blt 0 P.depth then some x else none
    | _ => none
  | _, _, _ => none

/-- a string that shares a row's bytes: nothing writes them any more -/
noncomputable def ustrA (P : Program) (h : H) (fs : List AF) (ts : List TypeId) (p n : Value) : Option (Value × H) :=
  match ts, natOf n with
  | t :: _, some n => match P.underlying t, p with
    | some (.pointer e), .pointer (some ⟨b, o, none⟩) => match P.underlying e, h.get b with
      | some (.int .u8), some (.cells cs e' _) => bif Nat.ble n 16777216 && Nat.blt 0 n && Nat.beq e' e && Nat.beq (P.cellsOf e) 1 && Nat.blt 0 P.depth && freeOf b fs then match takeX n (cs.drop o) with
          | some r => match bytesOf r with
            | some l => some (.string ⟨⟨l⟩⟩, h.set b (.fixed cs))
            | none => none
          | none => none
        else none
      | _, _ => none
    | some (.pointer _), .pointer none => bif Nat.beq n 0 then some (.string .empty, h) else none
    | _, _ => none
  | _, _ => none

/-- a comparison whose outcome is not known -/
noncomputable def cmpA (op : BinOp) (x y : Value) : Bool :=
  (match op with | .eql | .neq | .lss | .leq | .gtr | .geq => true | _ => false) &&
  match x, y with
  | .chan (some a), .int k _ => match kOf a with | some j => j == k | none => false
  | .int k _, .chan (some a) => match kOf a with | some j => j == k | none => false
  | .chan (some a), .chan (some b) => (match kOf a with | some _ => Nat.beq a b | none => Nat.beq a 20 && Nat.beq b 20)
  | .chan (some a), .string _ => Nat.beq a 20
  | .string _, .chan (some a) => Nat.beq a 20
  | _, _ => false

/-- a slice of bytes made of a constant is marked behind its end -/
noncomputable def markA (P : Program) (h : H) (fs : List AF) (src dst : TypeId) (v : Value) : Option H :=
  match v with
  | .slice (some ⟨b, _, none⟩) _ _ => bif Nat.beq src dst && freeOf b fs then
      match P.underlying dst with
      | some (.slice e) => match P.underlying e, h.get b with
        | some (.int .u8), some (.cells cs e' own) => some (h.set b (.cells cs e' own))
        | _, _ => none
      | _ => none
    else none
  | _ => none

noncomputable def updA (P : Program) (h : H) (fs : List AF) (t : TypeId) (m k v : Value) : Option H :=
  match mapT P t, m with
  | some (kt, _), .map (some b) => match (h.get b).bind entries with
    | some (es, c) => bif freeOf b fs then match updE P kt es c k v with
        | some (es', c') => some (h.set b (.map es' c'))
        | none => none
      else none
    | none => none
  | _, _ => none

noncomputable def delA (P : Program) (h : H) (fs : List AF) (ts : List TypeId) (m k : Value) : Option H :=
  match ts with
  | t :: _ => match mapT P t, m with
    | some (kt, _), .map none => match outE P kt [] k with
      | some _ => some h
      | none => none
    | some (kt, _), .map (some b) => match (h.get b).bind entries with
      | some (es, c) => bif freeOf b fs then match outE P kt es k with
          | some es' => some (h.set b (.map es' c))
          | none => none
        else none
      | none => none
    | _, _ => none
  | [] => none

noncomputable def isIntV : Value → Bool
  | .int _ _ => true
  | .chan (some a) => (kOf a).isSome
  | _ => false
noncomputable def makeMapA (P : Program) (h : H) (t : TypeId) (r : Option Value) : Option (Value × H) :=
  match mapT P t with
  | some _ => bif (match r with | none => true | some v => isIntV v) then some (.map (some h.n), h.push (.map [] 0)) else none
  | none => none

noncomputable def rangeA (P : Program) (h : H) (t : TypeId) (x : Value) : Option (Value × H) :=
  match mapT P t, x with
  | some _, .map none => some (.pointer (some ⟨h.n, 0, none⟩), h.push (.iter none 0 [] 0))
  | some _, .map (some b) => match (h.get b).bind entries with
    | some (_, c) => some (.pointer (some ⟨h.n, 0, none⟩), h.push (.iter (some b) c [] c))
    | none => none
  | _, _ => none
noncomputable def iterOf : AO → Option (Option Nat × Nat × List Nat × Nat)
  | .iter m s l c => some (m, s, l, c)
  | _ => none
abbrev Ent := Value × Value × Nat
noncomputable def seenB (seen : List Nat) (n : Nat) : Bool := List.rec (motive := fun _ => Bool) false (fun a _ ih => Bool.rec (motive := fun _ => Bool) ih true (Nat.beq a n)) seen
noncomputable def noL {α : Type} (l : List α) : Bool := List.rec (motive := fun _ => Bool) true (fun _ _ _ => false) l
noncomputable def keepE (p : Nat → Bool) (es : List Ent) : List Ent := List.rec (motive := fun _ => List Ent) [] (fun e _ ih => Bool.rec (motive := fun _ => List Ent) ih (e :: ih) (p e.2.2)) es
noncomputable def allE (p : Nat → Bool) (es : List Ent) : Bool := List.rec (motive := fun _ => Bool) true (fun e _ ih => Bool.rec (motive := fun _ => Bool) false ih (p e.2.2)) es
noncomputable def staleB (es : List Ent) (seen : List Nat) (last : Nat) : Bool := !(noL seen) && (!(noL es) && allE (fun n => Nat.ble last n) es)
noncomputable def oldE (es : List Ent) (seen : List Nat) (since : Nat) : List Ent := keepE (fun n => !(seenB seen n) && Nat.blt n since) es
noncomputable def newE (es : List Ent) (seen : List Nat) (since : Nat) : List Ent := keepE (fun n => !(seenB seen n) && Nat.ble since n) es
noncomputable def overV : Value := .tuple ⟨[.bool false]⟩
noncomputable def roundV (e : Ent) : Value := .tuple ⟨[.bool true, e.1, e.2.1]⟩
noncomputable def nextA (h : H) (fs : List AF) (x : Value) : Option (List AN) :=
  match x with
  | .pointer (some ⟨b, 0, none⟩) => match (h.get b).bind iterOf with
    | some (none, _, _, _) => some [.val overV h]
    | some (some m, since, seen, last) => match (h.get m).bind entries with
      | some (es, clock) => bif freeOf b fs && !(staleB es seen last) then
          some ((bif noL (oldE es seen since) then [.val overV h] else []) ++ (oldE es seen since ++ newE es seen since).map fun e => .val (roundV e) (h.set b (.iter (some m) since (seen ++ [e.2.2]) clock)))
        else none
      | none => none
    | none => none
  | _ => none

noncomputable def lastN (l : List Nat) : Option Nat := List.rec (motive := fun _ => Option Nat) none (fun a _ ih => Option.rec (motive := fun _ => Option Nat) (some a) (fun x => some x) ih) l
noncomputable def bornE (n : Nat) (es : List Ent) : Option Ent := List.rec (motive := fun _ => Option Ent) none (fun e _ ih => Bool.rec (motive := fun _ => Option Ent) ih (some e) (Nat.beq e.2.2 n)) es
noncomputable def entryV (e : Ent) : Value := .tuple ⟨[e.1, e.2.1]⟩
/-- the entry of the round -/
noncomputable def entryA (h : H) (x : Value) : Option Value :=
  match x with
  | .pointer (some ⟨b, 0, none⟩) => match (h.get b).bind iterOf with
    | some (some m, _, seen, stepped) => match lastN seen, (h.get m).bind entries with
      | some stamp, some (es, clock) => bif Nat.beq clock stepped then (match bornE stamp es with | some e => some (entryV e) | none => none) else none
      | _, _ => none
    | _ => none
  | _ => none

noncomputable def effA (P : Program) (h : H) (fs : List AF) (E : Operand → Value) (o : Oper) : Option (List AN) :=
  match o.op with
  | .store t a x => match storeA P h fs t (E a) (E x) with
    | some h' => some [.val undef h']
    | none => none
  | .binOp op _ x y _ => bif cmpA op (weak (E x)) (weak (E y)) then some [.val (.bool true) h, .val (.bool false) h] else none
  | .convert src dst x => match markA P h fs src dst (E x) with
    | some h' => some [.val (E x) h']
    | none => match uconvA P h src dst (E x) with
      | some v => some [.val v h]
      | none => none
  | .call c => match c.callee with
    | .value f => match E f with
      | .func (.func g) first cap => bif hasBody P g then some [.enter g (first ++ c.args.map E ++ cap)] else match extA P g (first ++ c.args.map E ++ cap).toList with
        | some v => some [.val v h]
        | none => match mnzT P g (first ++ c.args.map E ++ cap).toList with
          | some q => some [.val (rowA h q.1 q.2.1 q.2.2).1 (rowA h q.1 q.2.1 q.2.2).2]
          | none => none
      | .func (.yield l) first _ => some [.round l (first ++ c.args.map E)]
      | _ => none
    | .builtin .append => match c.args.toList with
      | [s, x] => match appendA P h fs c.argTypes.toList (E s) (E x) with
        | some (v, h') => some [.val v h']
        | none => none
      | _ => none
    | .builtin .copy => match c.args.toList with
      | [s, x] => match copyA P h fs c.argTypes.toList (E s) (E x) with
        | some (v, h') => some [.val v h']
        | none => none
      | _ => none
    | .builtin .recover => some [.recover]
    | .builtin .unsafeString => match c.args.toList with
      | [p, n] => match ustrA P h fs c.argTypes.toList (E p) (E n) with
        | some (v, h') => some [.val v h']
        | none => none
      | _ => none
    | .builtin .delete => match c.args.toList with
      | [m, k] => match delA P h fs c.argTypes.toList (E m) (E k) with
        | some h' => some [.val undef h']
        | none => none
      | _ => none
    | .builtin .clear => match c.args.toList with
      | [x] => match clearA P h fs c.argTypes.toList (E x) with
        | some h' => some [.val undef h']
        | none => none
      | _ => none
    | _ => none
  | .makeMap t r => match makeMapA P h t (r.map E) with
    | some (v, h') => some [.val v h']
    | none => none
  | .insert t m k x | .mapUpdate t m k x => match updA P h fs t (E m) (E k) (E x) with
    | some h' => some [.val undef h']
    | none => none
  | .range t x => match rangeA P h t (E x) with
    | some (v, h') => some [.val v h']
    | none => none
  | .next it s => bif s then none else nextA h fs (E it)
  | .entry it => match entryA h (E it) with
    | some v => some [.val v h]
    | none => none
  | .defer c => match c.callee with
    | .value f => match E f with
      | .func (.func g) first cap => some [.defer { target := .fn (.func g) cap, args := first ++ c.args.map E }]
      | _ => none
    | _ => none
  | .panic x => match E x with
    | .iface t v => some [.panic (.iface t v)]
    | _ => none
  | _ => none

/-! operations on forms -/
noncomputable def eqK : Nat → Facts → Program → TypeId → Value → Value → Option Bool
  | 0, _, _, _, _, _ => none
  | n + 1, K, P, t, x, y =>
    match P.underlying t, x, y with
    | some (.int _), x, y => match linOf x, linOf y with
      | some (k, f), some (k', g) => bif k == k' then eqS K f g else none
      | _, _ => none
    | some (.struct fs), .agg xs, .agg ys => bif P.stoodInHeld t then none else eqFs P (eqK n K P) xs ys fs.toList
    | some (.array len e), .agg xs, .agg ys => match P.info? e with
      | some i => eqIs P (eqK n K P) e i.size xs ys (List.range len)
      | none => none
    | _, x, y => eqA (n + 1) P t x y

noncomputable def resB (K : Facts) (v : Value) : Value := match boolOf v with
  | some (c, f) => match decB K c f with
    | some b => .bool b
    | none => v
  | none => v
noncomputable def isT22 : Value → Bool
  | .chan (some 22) => true
  | _ => false
/-- a truth and a known one -/
noncomputable def sameB (v : Value) (b : Bool) : Option Value := match boolOf v with
  | some (c, f) => some (bif b then symB c f else negB c f)
  | none => bif isT22 v then some (.chan (some 22)) else none
noncomputable def natsB (f : List Nat) : List Nat → Bool := List.rec (motive := fun _ => List Nat → Bool) (fun g => List.rec (motive := fun _ => Bool) true (fun _ _ _ => false) g)
  (fun a _ ih g => List.rec (motive := fun _ => Bool) false (fun b g _ => Bool.rec (motive := fun _ => Bool) false (ih g) (Nat.beq a b)) g) f
noncomputable def isBl (v : Value) : Bool := match v with
  | .bool _ => true
  | .chan (some 22) => true
  | v => (boolOf v).isSome
/-- two truths that hang on the same word -/
noncomputable def twinB (x y : Value) : Bool := match boolOf x, boolOf y with
  | some (c, f), some (d, g) => Nat.ble 33 c && (Nat.beq c d && natsB (natsI f) (natsI g))
  | _, _ => false
/-- truths compared, one of them known -/
noncomputable def bolBin (P : Program) (K : Facts) (op : BinOp) (t : TypeId) (x y : Value) : Option Value :=
  match P.underlying t, op with
  | some .bool, .eql => match resB K x, resB K y with
    | .bool a, .bool b => some (.bool (a == b))
    | u, .bool b => sameB u b
    | .bool a, u => sameB u a
    | u, v => bif twinB u v then some (.bool true) else bif (isT22 u || isT22 v) && (isBl u && isBl v) then some (.chan (some 22)) else none
  | some .bool, .neq => match resB K x, resB K y with
    | .bool a, .bool b => some (.bool !(a == b))
    | u, .bool b => sameB u (!b)
    | .bool a, u => sameB u (!a)
    | u, v => bif twinB u v then some (.bool false) else bif (isT22 u || isT22 v) && (isBl u && isBl v) then some (.chan (some 22)) else none
  | _, _ => none

noncomputable def oneVar : List Int → Nat → Option (Nat × Int)
  | [], _ => none
  | c :: cs, i => bif c == 0 then oneVar cs (i + 1) else bif zeroL cs && (c == 1 || c == -1) then some (i, c) else none
/-- a number as a word -/
noncomputable def asW (K : Facts) : Value → Option (List Nat)
  | .int .u32 (.ofNat n) => bif Nat.blt n 4294967296 then some (constW n 32) else none
  | .func (.methodOf a _) l _ => bif Nat.beq a 16 then natsV l.toList else bif Nat.beq a 6 then (match intsV l.toList with
      | some (c :: cs) => match oneVar cs 0 with
        | some (i, a) => bif Nat.blt i 64 && (c == 0) && (a == 1) && inK K .u32 (c :: cs) then some (varW i 32) else none
        | none => none
      | _ => none) else none
  | _ => none
/-- many entries of several variables -/
noncomputable def mixedW (f : List Nat) : Nat := List.rec (motive := fun _ => Nat) 0 (fun e _ ih => Bool.rec (motive := fun _ => Nat) (Nat.succ ih) ih (Nat.beq (Nat.pow 2 (Nat.log2 (Nat.div e 32))) (Nat.div e 32))) f
noncomputable def wordB (K : Facts) (c : Nat) (f : List Nat) : Value := match decW K f with
  | some b => .bool (bif Nat.beq c 33 then b else !b)
  | none => bif Nat.ble 6 (mixedW (redK K f)) then .chan (some 22) else symB c (intsN f)
/-- a power of two -/
noncomputable def powOf (n : Nat) : Option Nat := bif Nat.beq (Nat.pow 2 (Nat.log2 n)) n then some (Nat.log2 n) else none
noncomputable def wordLo (K : Facts) (c : Nat) (x : Value) (n : Nat) : Option Value := match asW K x, powOf n with
  | some f, some p => bif Nat.ble p 32 then some (wordB K c (hiW p f)) else none
  | _, _ => none
noncomputable def wordBin (K : Facts) (op : BinOp) (x y : Value) : Option Value :=
  match op with
  | .and => match asW K x, asW K y with | some f, some g => some (wordV (andW f g)) | _, _ => none
  | .or => match asW K x, asW K y with | some f, some g => some (wordV (orW f g)) | _, _ => none
  | .xor => match asW K x, asW K y with | some f, some g => some (wordV (xorW f g)) | _, _ => none
  | .andNot => match asW K x, asW K y with | some f, some g => some (wordV (xorW f (andW f g))) | _, _ => none
  | .eql => match asW K x, asW K y with | some f, some g => some (wordB K 33 (xorW f g)) | _, _ => none
  | .neq => match asW K x, asW K y with | some f, some g => some (wordB K 34 (xorW f g)) | _, _ => none
  | .shr => match y with | .int _ (.ofNat n) => (match asW K x with | some f => some (wordV (shrW (bif Nat.ble n 32 then n else 32) f)) | none => none) | _ => none
  | .rem => match y with | .int .u32 (.ofNat n) => (match asW K x, powOf n with | some f, some p => bif Nat.blt p 32 then some (wordV (loW p f)) else none | _, _ => none) | _ => none
  | .lss => match y with | .int .u32 (.ofNat n) => wordLo K 33 x n | _ => none
  | .geq => match y with | .int .u32 (.ofNat n) => wordLo K 34 x n | _ => none
  | .leq => match y with | .int .u32 (.ofNat n) => wordLo K 33 x (Nat.succ n) | _ => none
  | .gtr => match y with | .int .u32 (.ofNat n) => wordLo K 34 x (Nat.succ n) | _ => none
  | _ => none
/-- are there bits? -/
noncomputable def bitsOn (K : Facts) : Bool := List.rec (motive := fun _ => Bool) false (fun _ _ _ => true) (dropT K.lo 64)

noncomputable def symBin (P : Program) (K : Facts) (op : BinOp) (t : TypeId) (x y : Value) : Option Value :=
  match x, y with
  | .agg xs, .agg ys => bif P.eqGuardType P.depth t then none else match op with
    | .eql => match eqK 10 K P t (.agg xs) (.agg ys) with | some b => some (.bool b) | none => none
    | .neq => match eqK 10 K P t (.agg xs) (.agg ys) with | some b => some (.bool !b) | none => none
    | _ => none
  | x, y => bif (isSym x || isSym y) || (isT22 x || isT22 y) then match (bif bitsOn K then wordBin K op x y else none) with
      | some v => some v
      | none => match linOf x, linOf y with
      | some (k, f), some (k', g) => bif k == k' then match linBin K op k f g with
          | some v => some v
          | none => topBin op (weak x) (weak y)
        else topBin op (weak x) (weak y)
      | _, _ => match bolBin P K op t x y with
        | some v => some v
        | none => topBin op (weak x) (weak y)
    else none

noncomputable def min2S (K : Facts) (mx : Bool) (x y : Value) : Option Value := match linOf x, linOf y with
  | some (k, f), some (k', g) => bif k == k' then match decS K (bif mx then subL (subL g f) [1] else subL (subL f g) [1]) with
      | some b => some (bif b then y else x)
      | none => none
    else none
  | _, _ => none
noncomputable def minS (K : Facts) (mx : Bool) (x : Value) (l : List Value) : Option Value := match l with
  | [] => some x
  | y :: l => match min2S K mx x y with
    | some z => minS K mx z l
    | none => none

/-! unknown memory -/
/-- the place o behind the beginning of an unknown slice of elements of a type -/
noncomputable def opqP (i o : Nat) (e : TypeId) : Value := .func (.via 3 #[] i false) ⟨[.int .i64 (.ofNat o), .int .i64 (.ofNat e)]⟩ #[]
noncomputable def placeOf : Value → Option (Nat × Nat × TypeId)
  | .func (.via 3 _ i _) l _ => match l.toList with
    | [.int .i64 (.ofNat o), .int .i64 (.ofNat e)] => some (i, o, e)
    | _ => none
  | _ => none
/-- the unknown's length is more than m -/
noncomputable def lenForm (i m : Nat) : List Int := (-((m : Int) + 1)) :: unitL i
noncomputable def elOf (i : Nat) (e : TypeId) : List (Nat × TypeId × List Value) → Option (List Value)
  | [] => none
  | (j, f, l) :: r => bif Nat.beq j i && Nat.beq f e then some l else elOf i e r
noncomputable def loadO (P : Program) (K : Facts) (t : TypeId) (i o : Nat) (e : TypeId) : Option Value :=
  match elOf i e K.els, sizeA P t, isAggB P t with
  | some l, some n, some g => bif Nat.blt 0 l.length && Nat.ble (o % l.length + n) l.length && Nat.blt 0 n && pos K (lenForm i (o / l.length)) then
      (bif g then (match takeX n (l.drop (o % l.length)) with | some q => some (.agg ⟨q⟩) | none => none) else (match l[o % l.length]? with | some v => bif cellB v then some v else none | none => none))
    else none
  | _, _, _ => none
noncomputable def opqA (P : Program) (K : Facts) (E : Operand → Value) (o : Op) : Option Value :=
  match o with
  | .nilCheck x => match placeOf (E x) with
    | some (i, m, e) => some (opqP i m e)
    | none => none
  | .load t a => match placeOf (E a) with
    | some (i, m, e) => loadO P K t i m e
    | none => none
  | .fieldAddr s x f => match placeOf (E x), P.underlying s with
    | some (i, m, e), some (.struct fs) => match fs[f]? with
      | some fd => match sizeA P fd.type with
        | some (_ + 1) => some (opqP i (m + fd.offset) e)
        | _ => none
      | none => none
    | _, _ => none
  | .indexAddr t x ix => match natOf (E ix), P.underlying t, E x with
    | some m, some (.slice e), .func (.via 2 _ i _) _ _ => match elOf i e K.els, sizeA P e with
      | some l, some s => bif Nat.beq l.length s && Nat.blt 0 s && pos K (lenForm i m) then some (opqP i (m * s) e) else none
      | _, _ => none
    | _, _, _ => none
  | .index t x ix => match natOf (E ix), P.underlying t, E x with
    | some m, some .string, .func (.via 1 _ i _) _ _ => bif pos K (lenForm i m) then some (topI .u8) else none
    | _, _, _ => none
  | _ => none

noncomputable def symA (P : Program) (K : Facts) (E : Operand → Value) (o : Op) : Option Value :=
  match o with
  | .binOp op t x y _ => symBin P K op t (E x) (E y)
  | .unOp op _ x => match op, linOf (E x), boolOf (E x) with
    | .neg, some (k, f), _ => some (mkI K k (mulL (-1) f))
    | .not, _, some (c, f) => some (negB c f)
    | _, _, _ => none
  | .pick c a b => match boolOf (E c) with
    | some (c, f) => match decB K c f with
      | some true => some (E a)
      | some false => some (E b)
      | none => none
    | none => none
  | .convert src dst x => match P.underlying src, P.underlying dst, E x with
    | some (.int _), some (.int k), .func (.methodOf a s) l c => match linOf (.func (.methodOf a s) l c) with
      | some (_, f) => some (mkI K k f)
      | none => match asW K (.func (.methodOf a s) l c), k with
        | some f, .u32 => some (wordV f)
        | _, _ => none
    | _, _, _ => none
  | .call c => match c.callee with
    | .builtin .min => match c.args.toList.map E with
      | x :: l => minS K false x l
      | [] => none
    | .builtin .max => match c.args.toList.map E with
      | x :: l => minS K true x l
      | [] => none
    | .builtin .len => match c.argTypes.toList, c.args.toList.map E with
      | [t], [x] => match P.underlying t, x with
        | some .string, .func (.via 1 _ i _) _ _ => some (symV .i64 (0 :: unitL i))
        | some (.slice _), .func (.via 2 _ i _) _ _ => some (symV .i64 (0 :: unitL i))
        | _, x => bif isSym x then lenA P t (weak x) else none
      | _, _ => none
    | _ => none
  | o => opqA P K E o

/-! ways -/
noncomputable def maxAt : List Int → Nat → Int → List Int
  | [], _, _ => []
  | x :: l, 0, v => (bif decide (x ≤ v) then v else x) :: l
  | x :: l, i + 1, v => x :: maxAt l i v
noncomputable def minAt : List Int → Nat → Int → List Int
  | [], _, _ => []
  | x :: l, 0, v => (bif decide (v ≤ x) then v else x) :: l
  | x :: l, i + 1, v => x :: minAt l i v
/-- one more form that is not negative -/
noncomputable def addF (K : Facts) (f : List Int) : Facts :=
  match f with
  | [] => K
  | c :: cs => match oneVar cs 0 with
    | some (i, a) => bif a == 1 then ⟨maxAt K.lo i (-c), K.hi, K.cs, K.con, K.cells, K.els⟩ else ⟨K.lo, minAt K.hi i c, K.cs, K.con, K.cells, K.els⟩
    | none => ⟨K.lo, K.hi, (c :: cs) :: K.cs, K.con, K.cells, K.els⟩

/-- a form on whose sign it hangs -/
noncomputable def needEq (K : Facts) (f g : List Int) : Option (List Int) :=
  match decS K (subL f g) with
  | none => some (subL f g)
  | some false => none
  | some true => match decS K (subL g f) with
    | none => some (subL g f)
    | _ => none
noncomputable def needB (K : Facts) (c : Nat) (f : List Int) : Option (List Int) := bif Nat.beq c 30 then some f else bif Nat.ble 33 c then needK K (natsI f) else needEq K f []
noncomputable def needVs (K : Facts) : List Value → List Value → Option (List Int)
  | x :: l, y :: m => match linOf x, linOf y with
    | some (_, f), some (_, g) => match needEq K f g with
      | some e => some e
      | none => needVs K l m
    | _, _ => needVs K l m
  | _, _ => none
noncomputable def needBin (K : Facts) (op : BinOp) (x y : Value) : Option (List Int) :=
  match x, y with
  | .agg xs, .agg ys => needVs K xs.toList ys.toList
  | x, y => match boolOf x, boolOf y with
    | some (c, f), some _ => needB K c f
    | _, _ => none
noncomputable def needMin (K : Facts) (mx : Bool) (x : Value) (l : List Value) : Option (List Int) := match l with
  | [] => none
  | y :: l => match min2S K mx x y with
    | some z => needMin K mx z l
    | none => match linOf x, linOf y with
      | some (_, f), some (_, g) => some (bif mx then subL (subL g f) [1] else subL (subL f g) [1])
      | _, _ => none
noncomputable def needA (K : Facts) (E : Operand → Value) (o : Op) : Option (List Int) :=
  match o with
  | .binOp op _ x y _ => needBin K op (E x) (E y)
  | .pick c _ _ => match boolOf (E c) with
    | some (c, f) => needB K c f
    | none => none
  | .call c => match c.callee with
    | .builtin .min => match c.args.toList.map E with
      | x :: l => needMin K false x l
      | [] => none
    | .builtin .max => match c.args.toList.map E with
      | x :: l => needMin K true x l
      | [] => none
    | _ => none
  | _ => none

/-! calls that are not entered -/
noncomputable def isUnit : Nat → List Int → Bool
  | 0, [c] => c == 1
  | i + 1, c :: f => bif c == 0 then isUnit i f else false
  | _, _ => false
/-- is it the unknown i? -/
noncomputable def isOpq (cells : List Value) (i : Nat) : Value → Bool
  | .func (.via 3 _ _ _) _ _ => false
  | .func (.via _ _ j _) _ _ => Nat.beq i j
  | .func (.methodOf a _) l _ => match cells[i]?, intsV l.toList with
    | some (.chan (some b)), some (c :: f) => Nat.ble a 7 && Nat.beq a b && c == 0 && isUnit i f
    | _, _ => false
  | _ => false
noncomputable def areOpq (cells : List Value) : List Nat → List Value → Bool
  | [], [] => true
  | i :: is, v :: vs => bif isOpq cells i v then areOpq cells is vs else false
  | _, _ => false
noncomputable def cpA (cells : List Value) : CP → Value → Bool
  | .one i, v => areOpq cells [i] [v]
  | .agg is, .agg vs => areOpq cells is vs.toList
  | _, _ => false
noncomputable def cpsA (cells : List Value) : List CP → List Value → Bool
  | [], [] => true
  | p :: ps, v :: vs => bif cpA cells p v then cpsA cells ps vs else false
  | _, _ => false
noncomputable def conA (cells : List Value) (g : FuncId) (args : List Value) : List (FuncId × List CP × Value) → Option Value
  | [] => none
  | (f, ps, v) :: l => bif Nat.beq f g && cpsA cells ps args then some v else conA cells g args l

/-! the machine -/

noncomputable def setL : List Value → Nat → Value → List Value
  | [], _, _ => []
  | _ :: l, 0, v => v :: l
  | x :: l, n + 1, v => x :: setL l n v

theorem setR_eq : ∀ (l : List Value) (n : Nat) (v : Value), setR l n v = setL l n v
  | [], n, v => rfl
  | x :: l, 0, v => rfl
  | x :: l, n + 1, v => by
    show x :: setR l n v = _
    rw [setR_eq l n]; rfl

noncomputable def putA (tmps : List Value) (dst : Option Tmp) (v : Value) : List Value :=
  match dst with
  | some d => setR tmps d v
  | none => tmps

noncomputable def eraseN : List Nat → Nat → List Nat
  | [], _ => []
  | x :: l, i => bif Nat.beq x i then eraseN l i else x :: eraseN l i

noncomputable def finishT (f : AF) (v : Value) : Option AF :=
  match f.todo with
  | .reg ops (i :: rest) :: k => some { f with tmps := putA f.tmps ((ops[i]?).bind (·.dst)) v, todo := .reg ops rest :: k }
  | .drawn ops rest fp (some i) :: k => some { f with tmps := putA f.tmps ((ops[i]?).bind (·.dst)) v, todo := .drawn ops (eraseN rest i) fp none :: k }
  | .inRangeFunc l :: k => some { f with todo := .endRangeFunc l :: k }
  | .beginRound :: k => some { f with todo := k }
  | _ => none

noncomputable def finishA (f : AF) (v : Value) : Option AF :=
  match f.mode with
  | .run => finishT f v
  | _ => none

/-- is the operation wanted? none: it can't be told -/
noncomputable def wantedA (ops : Array Oper) (tmps : List Value) (o : Oper) : Option Bool :=
  match o.guard with
  | none => some true
  | some (j, want) => match (ops[j]?).bind (·.dst) with
    | some d => match tmps[d]? with
      | some (.bool b) => some (b == want)
      | some (.tuple _) => some false
      | none => some false
      | _ => none
    | none => some false

noncomputable def replV (n : Nat) (l : List Value) : List Value := match n with
  | 0 => l
  | n + 1 => replV n (undef :: l)

noncomputable def symWant (K : Facts) (ops : Array Oper) (tmps : List Value) (o : Oper) : Option Bool :=
  match o.guard with
  | none => none
  | some (j, want) => match (ops[j]?).bind (·.dst) with
    | none => none
    | some d => match tmps[d]? with
      | none => none
      | some v => match boolOf v with
        | some (c, f) => match decB K c f with
          | some b => some (b == want)
          | none => none
        | none => none
noncomputable def wantedK (K : Facts) (ops : Array Oper) (tmps : List Value) (o : Oper) : Option Bool :=
  match wantedA ops tmps o with
  | some b => some b
  | none => symWant K ops tmps o
noncomputable def needW (K : Facts) (ops : Array Oper) (tmps : List Value) (o : Oper) : Option (List Int) :=
  match o.guard with
  | none => none
  | some (j, _) => match (ops[j]?).bind (·.dst) with
    | none => none
    | some d => match tmps[d]? with
      | none => none
      | some v => match boolOf v with
        | some (c, f) => needB K c f
        | none => none

noncomputable def enterA (P : Program) (f : FuncId) (args : Array Value) (kind : CallKind) : Option AF :=
  match P.funcs[f]? with
  | some fn => match fn.body with
    | some c => some { fn := f, tmps := args.toList ++ replV (fn.ntmps - args.size) [], todo := [.code c], defers := [], mode := .run, kind, roundOf := none }
    | none => none
  | none => none

noncomputable def exitA (id : Nat) : List AI → Option (List AI)
  | .inBlock id' :: k => bif Nat.beq id' id then some k else exitA id k
  | _ :: k => exitA id k
  | [] => none

noncomputable def gotoA (l : Nat) : List AI → Option (List AI)
  | .inScope b :: k => match findLabel b l with
    | some c => some (.code c :: .inScope b :: k)
    | none => gotoA l k
  | _ :: k => gotoA l k
  | [] => none

/-- what a region that draws writes is unknown -/
noncomputable def poison : List Oper → List Value → List Value
  | [], tmps => tmps
  | o :: l, tmps => match o.dst with
    | some d => poison l (setR tmps d bad)
    | none => poison l tmps

noncomputable def raiseA (f : AF) (vs : List PanicEntry) : AF :=
  match f.mode with
  | .panicking chain => { f with mode := .panicking (vs ++ chain) }
  | .returning => { f with mode := .panicking vs }
  | .run => { f with mode := .panicking vs, tmps := (match f.todo with | .drawn ops _ _ _ :: _ => poison ops.toList f.tmps | _ => f.tmps) }

/-- what recover yields, and the callers behind it -/
noncomputable def recA (f : AF) (cs : List AF) : Option (Value × List AF) :=
  match f.kind, cs with
  | .normal, _ => some (.nilIface, cs)
  | .deferred, c :: rest => match c.mode with
    | .panicking (e :: older) => bif e.recovered || e.goexit then some (.nilIface, cs) else some (e.v, { c with mode := .panicking ({ e with recovered := true } :: older) } :: rest)
    | _ => some (.nilIface, cs)
  | _, _ => none

noncomputable def setPs : List Value → List (Nat × Value) → List Value
  | tmps, [] => tmps
  | tmps, (t, v) :: l => setPs (setR tmps t v) l

/-- a call is entered -/
noncomputable def goA (P : Program) (m : AM) (f : FuncId) (args : Array Value) : Option AM :=
  match enterA P f args .normal with
  | some f => some { m with fr := f, cs := m.fr :: m.cs }
  | none => none

noncomputable def applyA (P : Program) (m : AM) (n : AN) : Option AM :=
  match n with
  | .val v h => match finishA m.fr v with
    | some f => some { m with fr := f, h }
    | none => none
  | .enter f args => match conA m.h.k.cells f args.toList m.h.k.con with
    | some v => match finishA m.fr v with
      | some f => some { m with fr := f }
      | none => none
    | none => match enterA P f args .normal with
      | some f => some { m with fr := f, cs := m.fr :: m.cs }
      | none => none
  | .panic v => some { m with fr := raiseA m.fr [{ v, recovered := false }] }
  | .defer d => match m.fr.roundOf with
    | none => match finishA { m.fr with defers := d :: m.fr.defers } undef with
      | some f => some { m with fr := f }
      | none => none
    | some _ => none
  | .recover => match m.fr.roundOf with
    | none => match recA m.fr m.cs with
      | some (v, cs) => match finishA m.fr v with
        | some f => some { m with fr := f, cs }
        | none => none
      | none => none
    | some _ => none
  | .round l args => match m.h.get l with
    | some (.loop r) => bif Nat.beq args.size r.params.size && (P.funcs[r.fn]?).isSome then
        some { m with fr := { fn := r.fn, tmps := setPs r.tmps.toList (r.params.zip args).toList, todo := [.code r.assign, .beginRound, .code r.body], defers := [], mode := .run, kind := .normal, roundOf := some l }, cs := m.fr :: m.cs }
      else none
    | _ => none

noncomputable def applyAll (P : Program) (m : AM) : List AN → Option (List AM)
  | [] => some []
  | n :: l => match applyA P m n with
    | some a => match applyAll P m l with
      | some r => some (a :: r)
      | none => none
    | none => none

/-- the caller of a deferred call that has returned -/
noncomputable def backA (c : AF) : AF :=
  match c.mode with
  | .panicking (e :: older) => bif e.recovered then
      match older.dropWhile (!·.goexit) with
      | [] => { c with mode := .returning }
      | x :: rest => { c with mode := .panicking (x :: rest) }
    else c
  | _ => c

/-- back to the caller -/
noncomputable def returnA (m : AM) (v : Value) : Option AM :=
  match m.cs with
  | [] => none
  | c :: cs => match m.fr.kind with
    | .normal => match finishA c v with
      | some f => some { m with fr := f, cs }
      | none => none
    | .deferred => some { m with fr := backA c, cs }
    | _ => none

noncomputable def one (m : Option AM) : Option (List AM) := match m with
  | some m => some [m]
  | none => none

/-- a frame is left, by a jump or at its end -/
noncomputable def leaveA (m : AM) (jump : Option Code) : Option AM :=
  match m.fr.roundOf with
  | none => match jump with
    | none | some .ret => some { m with fr := { m.fr with mode := .returning } }
    | _ => none
  | some l => bif !freeOf l (m.fr :: m.cs) then none else match m.h.get l with
    | some (.loop r) => match m.fr.kind, m.cs with
      | .normal, c :: cs => match finishA c (.bool jump.isNone) with
        | some f => some { fr := f, cs, h := m.h.set l (.loop { r with state := if jump.isNone then .ready else .done, pending := jump }) }
        | none => none
      | _, _ => none
    | _ => none

noncomputable def notIn (l : List Nat) (i : Nat) : Bool := match l with
  | [] => true
  | x :: l => bif Nat.beq x i then false else notIn l i

/-- all that it waits for has been done -/
noncomputable def readyA (ops : Array Oper) (rest : List Nat) (o : Oper) : Bool := o.after.toList.all fun e => !Region.binds .any e || notIn rest e.on

noncomputable def asks (ops : Array Oper) (k m : Nat) : Bool := match ops[m]? with
  | some o => o.after.toList.any fun e => Region.binds .any e && Nat.beq e.on k
  | none => false

/-- behind what an operation waits for, step by step: k operations are still to be asked -/
noncomputable def anc (ops : Array Oper) : Nat → List Nat → List Nat
  | 0, S => S
  | k + 1, S => anc ops k (bif S.any (asks ops k) then k :: S else S)

/-- what may still be read ahead when operation i is carried out -/
noncomputable def prune (S : List Nat) : List (Nat × Nat) → List (Nat × Nat)
  | [] => []
  | (j, b) :: l => bif notIn S j then (j, b) :: prune S l else prune S l

noncomputable def tagFp (i : Nat) : List Nat → List (Nat × Nat) → List (Nat × Nat)
  | [], fp => fp
  | b :: r, fp => (i, b) :: tagFp i r fp

noncomputable def directA (o : Oper) (j : Nat) : Bool := o.after.toList.any fun e => Region.binds .any e && Nat.beq e.on j
/-- it writes a variable that others read before: it can't be carried out ahead -/
noncomputable def lateA (ops : Array Oper) (j : Nat) : Bool := match ops[j]? with
  | some p => match p.dst with
    | some d => (List.range ops.size).any fun i => match ops[i]? with
      | some o => !notIn (o.looksAt ops) d && !directA o j
      | none => false
    | none => false
  | none => false

/-- the first operation that is ready and can be carried out ahead -/
noncomputable def aheadA (P : Program) (d : Nat) (ops : Array Oper) (rest : List Nat) (fp : List (Nat × Nat)) (tmps : List Value) (h : H) : List Nat → Option (Nat × List Value × List (Nat × Nat) × H)
  | [] => none
  | i :: l => match ops[i]? with
    | none => none
    | some o => bif readyA ops rest o && !lateA ops i then
        match wantedK h.k ops tmps o with
        | some false => some (i, putA tmps o.dst undef, fp, h)
        | some true => match valA P h (ev P tmps) o with
          | some (v, r) => some (i, putA tmps o.dst v, tagFp i r fp, h)
          | none => match newA P (ev P tmps) o with
            | some (cs, e, mk) => bif Nat.blt h.n 1000000 then some (i, putA tmps o.dst (mk h.n), (i, h.n) :: fp, h.push (.cells cs e (d, i))) else none
            | none => aheadA P d ops rest fp tmps h l
        | none => none
      else aheadA P d ops rest fp tmps h l

/-- the first operation on forms that is ready -/
noncomputable def symAhead (P : Program) (K : Facts) (ops : Array Oper) (rest : List Nat) (tmps : List Value) : List Nat → Option (Nat × Sum Value (List Int))
  | [] => none
  | i :: l => match ops[i]? with
    | none => none
    | some o => bif readyA ops rest o && !lateA ops i then
        match wantedK K ops tmps o with
        | some true => match symA P K (ev P tmps) o.op with
          | some v => some (i, .inl v)
          | none => match needA K (ev P tmps) o.op with
            | some f => some (i, .inr f)
            | none => symAhead P K ops rest tmps l
        | some false => symAhead P K ops rest tmps l
        | none => match needW K ops tmps o with
          | some f => some (i, .inr f)
          | none => symAhead P K ops rest tmps l
      else symAhead P K ops rest tmps l

noncomputable def readyL (ops : Array Oper) (rest : List Nat) : List Nat → List Nat
  | [] => []
  | i :: l => match ops[i]? with
    | none => readyL ops rest l
    | some o => bif readyA ops rest o then i :: readyL ops rest l else readyL ops rest l

/-- each variable is written by one operation, and whoever reads it waits for that one -/
noncomputable def regOk (ops : Array Oper) : Bool :=
  (List.range ops.size).all fun i => match ops[i]? with
    | none => true
    | some o =>
      (o.after.toList.all fun e => !Region.binds .any e || Nat.blt e.on i) &&
      (List.range ops.size).all fun j => match ops[j]? with
        | none => true
        | some p => match p.dst with
          | none => true
          | some d =>
            (notIn (o.looksAt ops) d || directA o j || !notIn (anc ops j [j]) i) &&
            (Nat.beq i j || (match o.dst with | some d' => !Nat.beq d d' | none => true))

noncomputable def resA (P : Program) (h : H) (tmps : List Value) : List ResultVar → Option (List Value)
  | [] => some []
  | .tmp t :: l => match resA P h tmps l with
    | some r => some (getR tmps t :: r)
    | none => none
  | .cell a t :: l => match loadA P h t (getR tmps a) with
    | some (v, _) => match resA P h tmps l with
      | some r => some (v :: r)
      | none => none
    | none => none

noncomputable def tupA : List Value → Value
  | [v] => v
  | l => .tuple ⟨l⟩

noncomputable def resultA (P : Program) (m : AM) : Option Value :=
  match P.funcs[m.fr.fn]? with
  | some fn => match resA P m.h m.fr.tmps fn.results.toList with
    | some l => some (tupA l)
    | none => none
  | none => none

noncomputable def to (m : AM) (k : List AI) : Option (List AM) := some [{ m with fr := { m.fr with todo := k } }]

/-- a form is negative, or not -/
noncomputable def forkA (m : AM) (f : List Int) : List AM := [{ m with h := m.h.withK (addF m.h.k f) }, { m with h := m.h.withK (addF m.h.k (notL f)) }]

noncomputable def codeA (P : Program) (m : AM) (c : Code) (k : List AI) : Option (List AM) :=
  match c with
  | .ret => one (leaveA m (some .ret))
  | .skip | .label _ => to m k
  | .seq a b => to m (.code a :: .code b :: k)
  | .cond c a b => match ev P m.fr.tmps c with
    | .bool true => to m (.code a :: k)
    | .bool false => to m (.code b :: k)
    | .chan (some 22) => some [{ m with fr := { m.fr with todo := .code a :: k } }, { m with fr := { m.fr with todo := .code b :: k } }]
    | v => match boolOf v with
      | some (q, f) => match decB m.h.k q f with
        | some true => to m (.code a :: k)
        | some false => to m (.code b :: k)
        | none => match needB m.h.k q f with
          | some e => some (forkA m e)
          | none => none
      | none => none
  | .block id b => to m (.code b :: .inBlock id :: k)
  | .loop b => to m (.code b :: .inLoop b :: k)
  | .scope b => to m (.code b :: .inScope b :: k)
  | .exit id => match exitA id k with
    | some k' => to m k'
    | none => one (leaveA m (some (.exit id)))
  | .goto l => match gotoA l k with
    | some k' => to m k'
    | none => none
  | .region _ ops draw => bif draw then
      bif regOk ops then to m (.drawn ops (List.range ops.size) [] none :: k) else none
    else to m (.reg ops (List.range ops.size) :: k)
  | .rangeFunc f params assign body => match m.fr.roundOf with
    | none =>
      let n := m.h.n
      let h := (m.h.push (.deferred (some []))).push (.loop { state := .ready, pending := none, fn := m.fr.fn, tmps := ⟨m.fr.tmps⟩, params, assign, body, defers := n })
      match ev P m.fr.tmps f with
      | .func (.func g) first cap => bif hasBody P g then
          one (goA P { m with fr := { m.fr with todo := .inRangeFunc (n + 1) :: k, defers := { target := .collected n, args := #[] } :: m.fr.defers }, h } g (first ++ #[.func (.yield (n + 1)) #[] #[]] ++ cap))
        else none
      | _ => none
    | some o => match m.h.get o with
      | some (.loop r) =>
        let n := m.h.n
        let h := m.h.push (.loop { state := .ready, pending := none, fn := m.fr.fn, tmps := ⟨m.fr.tmps⟩, params, assign, body, defers := r.defers })
        match ev P m.fr.tmps f with
        | .func (.func g) first cap => bif hasBody P g then
            one (goA P { m with fr := { m.fr with todo := .inRangeFunc n :: k }, h } g (first ++ #[.func (.yield n) #[] #[]] ++ cap))
          else none
        | _ => none
      | _ => none
  | _ => none

noncomputable def regA (P : Program) (m : AM) (ops : Array Oper) (i : Nat) (rest : List Nat) (k : List AI) : Option (List AM) :=
  match ops[i]? with
  | none => none
  | some o => match wantedK m.h.k ops m.fr.tmps o with
    | some false => some [{ m with fr := { m.fr with tmps := putA m.fr.tmps o.dst undef, todo := .reg ops rest :: k } }]
    | some true => match valA P m.h (ev P m.fr.tmps) o with
      | some (v, _) => some [{ m with fr := { m.fr with tmps := putA m.fr.tmps o.dst v, todo := .reg ops rest :: k } }]
      | none => match newA P (ev P m.fr.tmps) o with
        | some (cs, e, mk) => some [{ m with fr := { m.fr with tmps := putA m.fr.tmps o.dst (mk m.h.n), todo := .reg ops rest :: k }, h := m.h.push (.cells cs e (0, 0)) }]
        | none => match symA P m.h.k (ev P m.fr.tmps) o.op with
          | some v => some [{ m with fr := { m.fr with tmps := putA m.fr.tmps o.dst v, todo := .reg ops rest :: k } }]
          | none => match needA m.h.k (ev P m.fr.tmps) o.op with
            | some f => some (forkA m f)
            | none => match effA P m.h (m.fr :: m.cs) (ev P m.fr.tmps) o with
              | some l => applyAll P m l
              | none => none
    | none => match needW m.h.k ops m.fr.tmps o with
      | some f => some (forkA m f)
      | none => none

noncomputable def effL (P : Program) (h : H) (fs : List AF) (E : Operand → Value) (ops : Array Oper) (i : Nat) (o : Oper) : Option (List AN) :=
  bif lateA ops i then match valA P h E o with
    | some (v, _) => some [.val v h]
    | none => none
  else effA P h fs E o

noncomputable def drawnA (P : Program) (m : AM) (ops : Array Oper) (rest : List Nat) (fp : List (Nat × Nat)) (k : List AI) : Option (List AM) :=
  match rest with
  | [] => to m k
  | _ => match aheadA P m.cs.length ops rest fp m.fr.tmps m.h rest with
    | some (i, tmps, fp, h) => some [{ m with fr := { m.fr with tmps, todo := .drawn ops (eraseN rest i) fp none :: k }, h }]
    | none => match symAhead P m.h.k ops rest m.fr.tmps rest with
     | some (i, .inl v) => some [{ m with fr := { m.fr with tmps := putA m.fr.tmps ((ops[i]?).bind (·.dst)) v, todo := .drawn ops (eraseN rest i) fp none :: k } }]
     | some (_, .inr f) => some (forkA m f)
     | none => match readyL ops rest rest with
      | [i] => match ops[i]? with
        | none => none
        | some o => match wantedK m.h.k ops m.fr.tmps o with
          | some true =>
            let f : AF := { m.fr with todo := .drawn ops rest (prune (anc ops i [i]) fp) (some i) :: k }
            match effL P m.h (f :: m.cs) (ev P m.fr.tmps) ops i o with
            | some l => applyAll P { m with fr := f } l
            | none => none
          | _ => none
      | _ => none

noncomputable def beginA (m : AM) : Option (List AM) :=
  match m.fr.roundOf with
  | none => none
  | some l => bif !freeOf l (m.fr :: m.cs) then none else match m.h.get l with
    | some (.loop r) => match r.state with
      | .ready => match finishA m.fr undef with
        | some f => some [{ m with fr := f, h := m.h.set l (.loop { r with state := .busy }) }]
        | none => none
      | _ => none
    | _ => none

noncomputable def endLoopA (m : AM) (l : Nat) (k : List AI) : Option (List AM) :=
  bif !freeOf l (m.fr :: m.cs) then none else match m.h.get l with
  | some (.loop r) => match r.state with
    | .busy => none
    | _ => some [{ m with fr := { m.fr with todo := (match r.pending with | some c => AI.code c :: k | none => k) }, h := m.h.set l (.loop { r with state := .exhausted }) }]
  | _ => none

noncomputable def unwindA (P : Program) (m : AM) : Option (List AM) :=
  match m.fr.defers with
  | d :: ds => match d.target with
    | .collected b => bif !freeOf b (m.fr :: m.cs) then none else match m.h.get b with
      | some (.deferred (some l)) => some [{ m with fr := { m.fr with defers := l ++ ds }, h := m.h.set b (.deferred none) }]
      | _ => none
    | .fn (.func g) cap => bif hasBody P g then match enterA P g (d.args ++ cap) .deferred with
        | some f => some [{ m with fr := f, cs := { m.fr with defers := ds } :: m.cs }]
        | none => none
      else none
    | _ => none
  | [] => match m.fr.mode with
    | .returning => match resultA P m with
      | some v => one (returnA m v)
      | none => none
    | .panicking chain => match P.funcs[m.fr.fn]?, m.cs with
      | some _, c :: cs => some [{ m with fr := raiseA c chain, cs }]
      | _, _ => none
    | .run => none

noncomputable def stepA (P : Program) (m : AM) : Option (List AM) :=
  match m.fr.mode with
  | .run => match m.fr.todo with
    | [] => one (leaveA m none)
    | .code c :: k => codeA P m c k
    | .inBlock _ :: k => to m k
    | .inScope _ :: k => to m k
    | .inLoop b :: k => to m (.code b :: .inLoop b :: k)
    | .reg _ [] :: k => to m k
    | .reg ops (i :: rest) :: k => regA P m ops i rest k
    | .drawn ops rest fp none :: k => drawnA P m ops rest fp k
    | .beginRound :: _ => beginA m
    | .endRangeFunc l :: k => endLoopA m l k
    | _ => none
  | _ => unwindA P m

/-- the end: the result of the function that was entered -/
noncomputable def endA (P : Program) (f : FuncId) (m : AM) : Option Value :=
  match m.fr.mode, m.cs, m.fr.defers, m.fr.kind with
  | .returning, [], [], .normal => bif Nat.beq m.fr.fn f then resultA P m else none
  | _, _, _, _ => none

/-- all ways come to the end, with a result that passes -/
noncomputable def all (P : Program) (f : FuncId) (ok : Value → Bool) : Nat → List AM → Bool
  | 0, _ => false
  | n + 1, L => match L with
    | [] => true
    | m :: l => match endA P f m with
      | some v => bif ok v then all P f ok n l else false
      | none => match stepA P m with
        | some r => all P f ok n (r ++ l)
        | none => false

noncomputable def isTrue : Value → Bool
  | .bool true => true
  | _ => false

noncomputable def run (P : Program) : Nat → AM → AM × Nat
  | 0, m => (m, 0)
  | n + 1, m => match stepA P m with
    | some [m'] => run P n m'
    | _ => (m, n + 1)

end Go.Sim

/- The abstract machine: when a value, a block and a world stand for real ones. -/
namespace Go.Sim
open Go.RowKit
set_option linter.unusedVariables false
set_option linter.unusedSimpArgs false
set_option linter.unusedSectionVars false
variable [Ev]

/-- where the blocks are: none, not yet made -/
abbrev Map := List (Option (Nat × Nat))

def flat : Value → Bool
  | .agg _ | .tuple _ => false
  | _ => true

/-- a form's value -/
def dotL : Nat → List Int → Int
  | _, [] => 0
  | i, c :: cs => c * Ev.val i + dotL (i + 1) cs
def evalL : List Int → Int
  | [] => 0
  | c :: cs => c + dotL 0 cs

/-- the variables of a mask are all 1 -/
noncomputable def monoB (m : Nat) : Bool := @decide (∀ v, m.testBit v = true → 1 ≤ Ev.val (64 + v)) (Classical.propDecidable _)
/-- a word's value -/
noncomputable def wval : List Nat → Nat
  | [] => 0
  | e :: l => (bif monoB (e / 32) then 2 ^ (e % 32) else 0) ^^^ wval l

/-- a truth that hangs on a form, or on a word -/
noncomputable def bval (c : Nat) (f : List Int) : Bool := bif Nat.beq c 30 then decide (0 ≤ evalL f) else bif Nat.ble 33 c then (bif Nat.beq c 33 then decide (wval (natsI f) = 0) else !decide (wval (natsI f) = 0)) else bif Nat.beq c 31 then decide (evalL f = 0) else !decide (evalL f = 0)

mutual
inductive VR (ρ : Map) : Value → Value → Prop
  | bool (b) : VR ρ (.bool b) (.bool b)
  | int (k n) : VR ρ (.int k n) (.int k n)
  | string (s) : VR ρ (.string s) (.string s)
  | ptrN : VR ρ (.pointer none) (.pointer none)
  | sliceN (n c) : VR ρ (.slice none n c) (.slice none n c)
  | nilFunc : VR ρ .nilFunc .nilFunc
  | nilIface : VR ρ .nilIface .nilIface
  | ptr (b o r d) (h : ρ[b]? = some (some (r, d))) : VR ρ (.pointer (some ⟨b, o, none⟩)) (.pointer (some ⟨r, d + o, none⟩))
  | slice (b o r d n c) (h : ρ[b]? = some (some (r, d))) (hc : isU c = false) : VR ρ (.slice (some ⟨b, o, none⟩) n c) (.slice (some ⟨r, d + o, none⟩) n c)
  | sliceU (b o r d n c p) (h : ρ[b]? = some (some (r, d))) (hn : n ≤ c) (hp : p = d + o ∨ (n = 0 ∧ c = 0)) : VR ρ (.slice (some ⟨b, o, none⟩) n unk) (.slice (some ⟨r, p, none⟩) n c)
  | sliceW (b r d n k) (h : ρ[b]? = some (some (r, d))) (h' : ρ[b + 1]? = some (some (r, k))) (hn : n ≤ k) : VR ρ (.slice (some ⟨b, 0, none⟩) n unk2) (.slice (some ⟨r, d, none⟩) n k)
  | sliceK (b o r d n c k p) (h : ρ[b]? = some (some (r, d))) (hn : n ≤ k) (hk : k ≤ c) (hp : p = d + o ∨ (n = 0 ∧ c = 0)) : VR ρ (.slice (some ⟨b, o, none⟩) n (unkK k)) (.slice (some ⟨r, p, none⟩) n c)
  | func (f) (as bs cs ds : List Value) (h : VRs ρ as bs) (h' : VRs ρ cs ds) : VR ρ (.func (.func f) ⟨as⟩ ⟨cs⟩) (.func (.func f) ⟨bs⟩ ⟨ds⟩)
  | yield (l r) (h : ρ[l]? = some (some (r, 0))) : VR ρ (.func (.yield l) #[] #[]) (.func (.yield r) #[] #[])
  | iface (t v v') (h : VR ρ v v') : VR ρ (.iface t v) (.iface t v')
  | agg (cs ds : List Value) (h : VRs ρ cs ds) : VR ρ (.agg ⟨cs⟩) (.agg ⟨ds⟩)
  | tuple (cs ds : List Value) (h : VRs ρ cs ds) : VR ρ (.tuple ⟨cs⟩) (.tuple ⟨ds⟩)
  | top (v) (h : flat v = true) : VR ρ (.chan none) v
  | topI (k n) : VR ρ (.chan (some (kno k))) (.int k n)
  | topS (s) : VR ρ (.chan (some 20)) (.string s)
  | topL (a n c) : VR ρ (.chan (some 21)) (.slice a n c)
  | topB (b) : VR ρ (.chan (some 22)) (.bool b)
  | mapN : VR ρ (.map none) (.map none)
  | map (b r) (h : ρ[b]? = some (some (r, 0))) : VR ρ (.map (some b)) (.map (some r))
  | bad (v) : VR ρ (.complex .f32 0 0) v
  | sym (k f) : VR ρ (.func (.methodOf (kno k) "") ⟨List.map (Value.int .i64) f⟩ #[]) (.int k (evalL f))
  | symB (c f) (hc : 30 ≤ c) : VR ρ (.func (.methodOf c "") ⟨List.map (Value.int .i64) f⟩ #[]) (.bool (bval c f))
  | symW (f : List Nat) : VR ρ (.func (.methodOf 16 "") ⟨f.map fun e => Value.int .i64 (.ofNat e)⟩ #[]) (.int .u32 (.ofNat (wval f)))
  | opq (i) (h : flat (Ev.op i) = true) : VR ρ (.func (.via 0 #[] i false) #[] #[]) (Ev.op i)
  | opqS (i s) (h : Ev.op i = .string s) : VR ρ (.func (.via 1 #[] i false) #[] #[]) (.string s)
  | opqP (i o e r p n c) (h : Ev.op i = .slice (some ⟨r, p, none⟩) n c) : VR ρ (.func (.via 3 #[] i false) ⟨[.int .i64 (Int.ofNat o), .int .i64 (Int.ofNat e)]⟩ #[]) (.pointer (some ⟨r, p + o, none⟩))
  | opqL (i a n c) (h : Ev.op i = .slice a n c) : VR ρ (.func (.via 2 #[] i false) #[] #[]) (.slice a n c)
inductive VRs (ρ : Map) : List Value → List Value → Prop
  | nil : VRs ρ [] []
  | cons (v v' l l') (h : VR ρ v v') (h' : VRs ρ l l') : VRs ρ (v :: l) (v' :: l')
end

/-- what a call that is not entered is given -/
def CP.real : CP → Value
  | .one i => Ev.op i
  | .agg is => .agg ⟨is.map Ev.op⟩

/-- an unknown slice's elements: their cells, one behind the other -/
def ElsOk (i : Nat) (l : List Value) : Prop := ∀ (a : Option Addr) (n c : Nat), Ev.op i = .slice a n c → 0 < n → ∃ r p cs ty fz, a = some ⟨r, p, none⟩ ∧ Ev.heap r = some (.cells cs ty fz) ∧
  ∀ o, o < n * l.length → ∃ v, (cs : Array Value)[p + o]? = some v ∧ VR [] (l.getD (o % l.length) (.complex .f32 0 0)) v

/-- what is known is so -/
structure FactsOk (K : Facts) : Prop where
  lo : ∀ (i : Nat) (a : Int), K.lo[i]? = some a → a ≤ Ev.val i
  hi : ∀ (i : Nat) (a : Int), K.hi[i]? = some a → a < noBound → Ev.val i ≤ a
  cs : ∀ f ∈ K.cs, 0 ≤ evalL f
  con : ∀ e ∈ K.con, Ev.con e.1 (e.2.1.map CP.real) e.2.2
  cells : ∀ (i : Nat) (k : IntKind), K.cells[i]? = some (topI k) → Ev.op i = .int k (Ev.val i)
  els : ∀ e ∈ K.els, ElsOk e.1 e.2.2

def le (ρ ρ' : Map) : Prop := ∀ (b : Nat) (p : Nat × Nat), ρ[b]? = some (some p) → ρ'[b]? = some (some p)

theorem ble_add (a k : Nat) : Nat.ble a (Nat.add a k) = true := Nat.ble_eq_true_of_le (Nat.le_add_right a k)
theorem sub_add (a k : Nat) : Nat.sub (Nat.add a k) a = k := Nat.add_sub_cancel_left a k
theorem ble_far {a b : Nat} (h : a ≤ b) (k : Nat) : Nat.ble a (Nat.add b k) = true := Nat.ble_eq_true_of_le (Nat.le_trans h (Nat.le_add_right b k))
theorem lt_far {a b : Nat} (h : a < b) (k : Nat) : a ≠ Nat.add b k := Nat.ne_of_lt (Nat.lt_of_lt_of_le h (Nat.le_add_right b k))
theorem isU_unkK (k : Nat) : isU (unkK k) = true := ble_far (by decide) k
theorem lbC_unkK (n k : Nat) : lbC n (unkK k) = k := by
  unfold lbC unkK
  rw [ble_add, cond_true, sub_add]
theorem unk2_unkK (k : Nat) : unk2 ≠ unkK k := lt_far (by decide) k
theorem unk_unkK (k : Nat) : unk ≠ unkK k := lt_far (by decide) k
theorem lbC_unk (n : Nat) : lbC n unk = n := rfl
theorem lbC_unk2 (n : Nat) : lbC n unk2 = n := rfl

theorem VR.uslice {ρ : Map} {b o n c : Nat} {x' : Value} (h : VR ρ (.slice (some ⟨b, o, none⟩) n c) x') (hc : isU c = true) :
    ∃ r d c' p, ρ[b]? = some (some (r, d)) ∧ (n ≤ c' ∧ n ≤ lbC n c ∧ lbC n c ≤ c') ∧ (p = d + o ∨ (n = 0 ∧ c' = 0)) ∧ x' = .slice (some ⟨r, p, none⟩) n c' := by
  generalize hq : Value.slice (some ⟨b, o, none⟩) n c = q at h
  cases h <;> first | (cases hq; done) | skip
  case slice b1 o1 r d n1 c1 hb hc' => cases hq; rw [hc] at hc'; cases hc'
  case sliceU b1 o1 r d n1 c' p hb hn hp => cases hq; exact ⟨r, d, c', p, hb, ⟨hn, Nat.le_refl _, hn⟩, hp, rfl⟩
  case sliceW b1 r d n1 k hb hb' hn => cases hq; exact ⟨r, d, k, d, hb, ⟨hn, Nat.le_refl _, hn⟩, .inl rfl, rfl⟩
  case sliceK b1 o1 r d n1 c' k p hb hn hk hp =>
    cases hq
    rw [lbC_unkK]
    exact ⟨r, d, c', p, hb, ⟨by omega, hn, hk⟩, hp, rfl⟩

theorem VR.eslice {ρ : Map} {b o n c : Nat} {x' : Value} (h : VR ρ (.slice (some ⟨b, o, none⟩) n c) x') (hc : isU c = false) :
    ∃ r d, ρ[b]? = some (some (r, d)) ∧ x' = .slice (some ⟨r, d + o, none⟩) n c := by
  generalize hq : Value.slice (some ⟨b, o, none⟩) n c = q at h
  cases h <;> first | (cases hq; done) | skip
  case slice b1 o1 r d n1 c1 hb hc' => cases hq; exact ⟨r, d, hb, rfl⟩
  case sliceU => cases hq; cases hc
  case sliceW => cases hq; cases hc
  case sliceK b1 o1 r d n1 c' k p hb hn hk hp => cases hq; rw [isU_unkK] at hc; cases hc

/-- either way: where its elements lie -/
theorem VR.rslice {ρ : Map} {b o n c : Nat} {x' : Value} (h : VR ρ (.slice (some ⟨b, o, none⟩) n c) x') :
    ∃ r d c' p, ρ[b]? = some (some (r, d)) ∧ (p = d + o ∨ (n = 0 ∧ c' = 0)) ∧ x' = .slice (some ⟨r, p, none⟩) n c' := by
  cases hc : isU c
  · obtain ⟨r, d, hb, rfl⟩ := h.eslice hc
    exact ⟨r, d, c, _, hb, .inl rfl, rfl⟩
  · obtain ⟨r, d, c', p, hb, _, hp, rfl⟩ := h.uslice hc
    exact ⟨r, d, c', p, hb, hp, rfl⟩

theorem le.refl (ρ : Map) : le ρ ρ := fun _ _ h => h
theorem le.trans {a b c : Map} (h : le a b) (h' : le b c) : le a c := fun i p hp => h' i p (h i p hp)
theorem le.app (ρ l : Map) : le ρ (ρ ++ l) := fun b p h => by
  have : b < ρ.length := by
    rcases Nat.lt_or_ge b ρ.length with h' | h'
    · exact h'
    · simp [List.getElem?_eq_none h'] at h
  rw [List.getElem?_append_left this]; exact h

mutual
theorem VR.mono {ρ ρ' : Map} (hl : le ρ ρ') : ∀ {v v' : Value}, VR ρ v v' → VR ρ' v v'
  | _, _, .bool b => .bool b
  | _, _, .int k n => .int k n
  | _, _, .string s => .string s
  | _, _, .ptrN => .ptrN
  | _, _, .sliceN n c => .sliceN n c
  | _, _, .nilFunc => .nilFunc
  | _, _, .nilIface => .nilIface
  | _, _, .ptr b o r d h => .ptr b o r d (hl _ _ h)
  | _, _, .slice b o r d n c h hc => .slice b o r d n c (hl _ _ h) hc
  | _, _, .sliceU b o r d n c p h hn hp => .sliceU b o r d n c p (hl _ _ h) hn hp
  | _, _, .sliceW b r d n k h h' hn => .sliceW b r d n k (hl _ _ h) (hl _ _ h') hn
  | _, _, .sliceK b o r d n c k p h hn hk hp => .sliceK b o r d n c k p (hl _ _ h) hn hk hp
  | _, _, .func f as bs cs ds h h' => .func f as bs cs ds (VRs.mono hl h) (VRs.mono hl h')
  | _, _, .yield l r h => .yield l r (hl _ _ h)
  | _, _, .iface t v v' h => .iface t v v' (VR.mono hl h)
  | _, _, .agg cs ds h => .agg cs ds (VRs.mono hl h)
  | _, _, .tuple cs ds h => .tuple cs ds (VRs.mono hl h)
  | _, _, .top v h => .top v h
  | _, _, .topI k n => .topI k n
  | _, _, .topS s => .topS s
  | _, _, .topL a n c => .topL a n c
  | _, _, .topB b => .topB b
  | _, _, .mapN => .mapN
  | _, _, .map b r h => .map b r (hl _ _ h)
  | _, _, .bad v => .bad v
  | _, _, .sym k f => .sym k f
  | _, _, .symB c f hc => .symB c f hc
  | _, _, .symW f => .symW f
  | _, _, .opq i h => .opq i h
  | _, _, .opqS i s h => .opqS i s h
  | _, _, .opqL i a n c h => .opqL i a n c h
  | _, _, .opqP i o e r p n c h => .opqP i o e r p n c h
theorem VRs.mono {ρ ρ' : Map} (hl : le ρ ρ') : ∀ {l l' : List Value}, VRs ρ l l' → VRs ρ' l l'
  | _, _, .nil => .nil
  | _, _, .cons v v' l l' h h' => .cons v v' l l' (VR.mono hl h) (VRs.mono hl h')
end

theorem VRs.length {ρ : Map} : ∀ {l l' : List Value}, VRs ρ l l' → l.length = l'.length
  | _, _, .nil => rfl
  | _, _, .cons _ _ _ _ _ h' => by simp [VRs.length h']

theorem VRs.get {ρ : Map} : ∀ {l l' : List Value}, VRs ρ l l' → ∀ (i : Nat) (v : Value), l[i]? = some v → ∃ v', l'[i]? = some v' ∧ VR ρ v v'
  | _, _, .nil, i, v, h => by simp at h
  | _, _, .cons x x' l l' h h', i, v, hv => by
    cases i with
    | zero => simp at hv; subst hv; exact ⟨x', by simp, h⟩
    | succ i => simp at hv ⊢; exact VRs.get h' i v hv

theorem VRs.of_get {ρ : Map} : ∀ (l l' : List Value), l.length = l'.length → (∀ (i : Nat) (v v' : Value), l[i]? = some v → l'[i]? = some v' → VR ρ v v') → VRs ρ l l'
  | [], [], _, _ => .nil
  | [], _ :: _, h, _ => by simp at h
  | _ :: _, [], h, _ => by simp at h
  | x :: l, x' :: l', h, hh => .cons _ _ _ _ (hh 0 x x' (by simp) (by simp)) (VRs.of_get l l' (by simpa using h) (fun i v v' a b => hh (i + 1) v v' (by simpa using a) (by simpa using b)))

theorem VRs.append {ρ : Map} : ∀ {a a' b b' : List Value}, VRs ρ a a' → VRs ρ b b' → VRs ρ (a ++ b) (a' ++ b')
  | _, _, _, _, .nil, h => h
  | _, _, _, _, .cons _ _ _ _ h h', k => .cons _ _ _ _ h (VRs.append h' k)

theorem VRs.drop {ρ : Map} : ∀ {a a' : List Value} (n : Nat), VRs ρ a a' → VRs ρ (a.drop n) (a'.drop n)
  | _, _, 0, h => by simpa using h
  | _, _, n + 1, .nil => by simpa using VRs.nil
  | _, _, n + 1, .cons _ _ _ _ h h' => by simpa using VRs.drop n h'

theorem flat_of {ρ : Map} {v v' : Value} (h : VR ρ v v') (hc : cellB v = true) : flat v' = true := by
  cases h <;> simp_all [cellB, flat]

theorem VR.const (ρ : Map) (v : Value) (h : okC v = true) : VR ρ v v := by
  cases v <;> simp [okC] at h
  case bool b => exact .bool b
  case int k n => exact .int k n
  case string s => exact .string s
  case pointer a => cases a <;> simp at h; exact .ptrN
  case slice a n c => cases a <;> simp at h; exact .sliceN n c
  case nilFunc => exact .nilFunc
  case nilIface => exact .nilIface
  case map a => cases a <;> simp at h; exact .mapN

theorem VRs.const (ρ : Map) : ∀ (l : List Value), l.all okC = true → VRs ρ l l
  | [], _ => .nil
  | v :: l, h => by
    simp at h
    exact .cons _ _ _ _ (.const ρ v h.1) (VRs.const ρ l (by simpa using h.2))

theorem constOf_rel (ρ : Map) (v : Value) : VR ρ (constOf v) v := by
  cases v
  case bool b => exact .bool b
  case int k n => exact .int k n
  case string s => exact .string s
  case pointer a => cases a; exact .ptrN; exact .bad _
  case slice a n c => cases a; exact .sliceN n c; exact .bad _
  case nilFunc => exact .nilFunc
  case nilIface => exact .nilIface
  case map a => cases a; exact .mapN; exact .bad _
  case agg cs =>
    unfold constOf
    dsimp only
    cases h : cs.all okC
    · exact .bad _
    · obtain ⟨l⟩ := cs
      exact .agg l l (VRs.const ρ l (by simpa using h))
  case tuple cs =>
    unfold constOf
    dsimp only
    cases h : cs.all okC
    · exact .bad _
    · obtain ⟨l⟩ := cs
      exact .tuple l l (VRs.const ρ l (by simpa using h))
  all_goals exact .bad _

theorem takeX_spec : ∀ (n : Nat) (l r : List Value), takeX n l = some r → r = l.take n ∧ n ≤ l.length
  | 0, l, r, h => by simp [takeX] at h; simp [← h]
  | n + 1, [], r, h => by simp [takeX] at h
  | n + 1, v :: l, r, h => by
    simp only [takeX] at h
    cases h' : takeX n l with
    | none => simp [h'] at h
    | some q =>
      simp [h'] at h
      obtain ⟨rfl, hq⟩ := takeX_spec n l q h'
      simp [← h]; omega

end Go.Sim

/- The abstract machine: memory. -/
namespace Go.Sim
open Go.RowKit
set_option linter.unusedVariables false
set_option linter.unusedSimpArgs false
set_option linter.unusedSectionVars false
variable [Ev]

theorem T.get_leaf : ∀ (d i : Nat), T.getF d .leaf i = none
  | 0, _ => rfl
  | _ + 1, _ => rfl

theorem T.get_set_ne : ∀ (d : Nat) (t : T) (i j : Nat) (o : AO), i ≠ j → (t.setF d i o).getF d j = t.getF d j
  | 0, t, i, j, o, h => rfl
  | d + 1, .leaf, i, j, o, h => by
    cases i with
    | zero =>
      cases j with
      | zero => exact absurd rfl h
      | succ j => simp only [T.setF, T.getF, T.get_leaf]; cases (j + 1) % 2 == 0 <;> rfl
    | succ i =>
      simp only [T.setF]
      cases hi : (i + 1) % 2 == 0
      · cases j with
        | zero => simp [T.getF]
        | succ j =>
          simp only [T.getF, cond_false]
          cases hj : (j + 1) % 2 == 0
          · simp only [cond_false]; rw [T.get_set_ne d .leaf _ _ o (by simp at hi hj; omega), T.get_leaf]
          · simp only [cond_true, T.get_leaf]
      · cases j with
        | zero => simp [T.getF]
        | succ j =>
          simp only [T.getF, cond_true]
          cases hj : (j + 1) % 2 == 0
          · simp only [cond_false, T.get_leaf]
          · simp only [cond_true]; rw [T.get_set_ne d .leaf _ _ o (by simp at hi hj; omega), T.get_leaf]
  | d + 1, .node l v r, i, j, o, h => by
    cases i with
    | zero =>
      cases j with
      | zero => exact absurd rfl h
      | succ j => simp only [T.setF, T.getF]
    | succ i =>
      simp only [T.setF]
      cases hi : (i + 1) % 2 == 0
      · cases j with
        | zero => simp [T.getF]
        | succ j =>
          simp only [T.getF, cond_false]
          cases hj : (j + 1) % 2 == 0
          · simp only [cond_false]; rw [T.get_set_ne d r _ _ o (by simp at hi hj; omega)]
          · simp only [cond_true]
      · cases j with
        | zero => simp [T.getF]
        | succ j =>
          simp only [T.getF, cond_true]
          cases hj : (j + 1) % 2 == 0
          · simp only [cond_false]
          · simp only [cond_true]; rw [T.get_set_ne d l _ _ o (by simp at hi hj; omega)]

theorem T.get_set_some : ∀ (d : Nat) (t : T) (i : Nat) (o x : AO), (t.setF d i o).getF d i = some x → x = o
  | 0, t, i, o, x, h => by simp [T.getF] at h
  | d + 1, .leaf, i, o, x, h => by
    cases i with
    | zero => simp [T.setF, T.getF] at h; exact h.symm
    | succ i =>
      simp only [T.setF] at h
      cases hi : (i + 1) % 2 == 0 <;> rw [hi] at h <;> simp only [T.getF, hi, cond_true, cond_false] at h <;> exact T.get_set_some d _ _ _ _ h
  | d + 1, .node l v r, i, o, x, h => by
    cases i with
    | zero => simp [T.setF, T.getF] at h; exact h.symm
    | succ i =>
      simp only [T.setF] at h
      cases hi : (i + 1) % 2 == 0 <;> rw [hi] at h <;> simp only [T.getF, hi, cond_true, cond_false] at h <;> exact T.get_set_some d _ _ _ _ h

theorem T.get_set : ∀ (d : Nat) (t : T) (i : Nat) (o : AO), i + 1 < 2 ^ d → (t.setF d i o).getF d i = some o
  | 0, t, i, o, h => by simp at h
  | d + 1, .leaf, i, o, h => by
    cases i with
    | zero => simp [T.setF, T.getF]
    | succ i =>
      rw [Nat.pow_succ] at h
      simp only [T.setF]
      cases hi : (i + 1) % 2 == 0 <;> simp only [T.getF, hi, cond_true, cond_false] <;> exact T.get_set d _ _ _ (by simp at hi; omega)
  | d + 1, .node l v r, i, o, h => by
    cases i with
    | zero => simp [T.setF, T.getF]
    | succ i =>
      rw [Nat.pow_succ] at h
      simp only [T.setF]
      cases hi : (i + 1) % 2 == 0 <;> simp only [T.getF, hi, cond_true, cond_false] <;> exact T.get_set d _ _ _ (by simp at hi; omega)

theorem H.get_lt {h : H} {i : Nat} {o : AO} (g : h.get i = some o) : i < h.n := by
  unfold H.get at g
  simp only [getT_eq] at g
  cases hb : Nat.blt i h.n
  · rw [hb] at g; cases g
  · simpa [Nat.blt_eq] using hb

theorem H.get_set {h : H} {i j : Nat} {o x : AO} (g : (h.set i o).get j = some x) : (j = i ∧ x = o) ∨ (j ≠ i ∧ h.get j = some x) := by
  by_cases e : j = i
  · subst e
    left
    refine ⟨rfl, ?_⟩
    unfold H.get H.set at g
    simp only [getT_eq, setT_eq] at g
    cases hb : Nat.blt j h.n <;> simp only [hb, cond_true, cond_false] at g
    · cases g
    · exact T.get_set_some _ _ _ _ _ g
  · right
    refine ⟨e, ?_⟩
    unfold H.get H.set at g
    simp only [getT_eq, setT_eq] at g
    unfold H.get
    simp only [getT_eq]
    try dsimp only at g
    rw [T.get_set_ne _ _ _ _ _ (fun e' => e e'.symm)] at g
    exact g

theorem H.get_set_ne {h : H} {i j : Nat} {o : AO} (e : j ≠ i) : (h.set i o).get j = h.get j := by
  unfold H.get H.set
  simp only [getT_eq, setT_eq]
  try dsimp only
  rw [T.get_set_ne _ _ _ _ _ (fun e' => e e'.symm)]

theorem H.get_push {h : H} {j : Nat} {o x : AO} (g : (h.push o).get j = some x) : (j = h.n ∧ x = o) ∨ (j < h.n ∧ h.get j = some x) := by
  by_cases e : j = h.n
  · subst e
    left
    refine ⟨rfl, ?_⟩
    unfold H.get H.push at g
    simp only [getT_eq, setT_eq] at g
    cases hb : Nat.blt h.n (h.n + 1) <;> simp only [hb, cond_true, cond_false] at g
    · cases g
    · exact T.get_set_some _ _ _ _ _ g
  · right
    have hl := H.get_lt g
    have : j < h.n := by simp [H.push] at hl; omega
    refine ⟨this, ?_⟩
    unfold H.get H.push at g
    simp only [getT_eq, setT_eq] at g
    unfold H.get
    simp only [getT_eq]
    try dsimp only at g
    rw [T.get_set_ne _ _ _ _ _ (fun e' => e e'.symm)] at g
    have h1 : Nat.blt j h.n = true := by simpa [Nat.blt_eq] using this
    have h2 : Nat.blt j (h.n + 1) = true := by simp [Nat.blt_eq]; omega
    rw [h2] at g
    rw [h1]
    exact g

theorem H.get_push_lt {h : H} {j : Nat} {o : AO} (e : j < h.n) : (h.push o).get j = h.get j := by
  unfold H.get H.push
  simp only [getT_eq, setT_eq]
  try dsimp only
  rw [T.get_set_ne _ _ _ _ _ (by omega)]
  have h1 : Nat.blt j h.n = true := by simpa [Nat.blt_eq] using e
  have h2 : Nat.blt j (h.n + 1) = true := by simp [Nat.blt_eq]; omega
  rw [h1, h2]

theorem H.get_push_new {h : H} {o : AO} (e : h.n < 1000000) : (h.push o).get h.n = some o := by
  unfold H.get H.push
  simp only [getT_eq, setT_eq]
  try dsimp only
  rw [T.get_set 20 _ _ _ (by omega)]
  have h2 : Nat.blt h.n (h.n + 1) = true := by simp [Nat.blt_eq]
  rw [h2]; rfl

/-! the relation -/

def AO.live : AO → Bool
  | .dead | .room => false
  | _ => true

inductive OptR {α β : Type} (R : α → β → Prop) : Option α → Option β → Prop
  | none : OptR R none none
  | some (a b) (h : R a b) : OptR R (some a) (some b)

inductive LsR {α β : Type} (R : α → β → Prop) : List α → List β → Prop
  | nil : LsR R [] []
  | cons (a b l l') (h : R a b) (h' : LsR R l l') : LsR R (a :: l) (b :: l')

theorem LsR.mono {α β : Type} {R R' : α → β → Prop} (hr : ∀ a b, R a b → R' a b) {l : List α} {l' : List β} (h : LsR R l l') : LsR R' l l' := by
  induction h with
  | nil => exact .nil
  | cons a b l l' h _ ih => exact .cons _ _ _ _ (hr _ _ h) ih

theorem LsR.append {α β : Type} {R : α → β → Prop} {a b : List α} {a' b' : List β} (h : LsR R a a') (k : LsR R b b') : LsR R (a ++ b) (a' ++ b') := by
  induction h with
  | nil => exact k
  | cons x y l l' h _ ih => exact .cons _ _ _ _ h ih

theorem OptR.mono {α β : Type} {R R' : α → β → Prop} (hr : ∀ a b, R a b → R' a b) {l : Option α} {l' : Option β} (h : OptR R l l') : OptR R' l l' := by
  cases h with
  | none => exact .none
  | some a b h => exact .some _ _ (hr _ _ h)

/-- a deferred call -/
inductive DR (ρ : Map) : Deferred → Deferred → Prop
  | fn (g : FuncId) (cs ds as bs : List Value) (h : VRs ρ cs ds) (h' : VRs ρ as bs) : DR ρ ⟨.fn (.func g) ⟨cs⟩, ⟨as⟩⟩ ⟨.fn (.func g) ⟨ds⟩, ⟨bs⟩⟩
  | collected (b r : Nat) (h : ρ[b]? = some (some (r, 0))) : DR ρ ⟨.collected b, #[]⟩ ⟨.collected r, #[]⟩

theorem DR.mono {ρ ρ' : Map} (hl : le ρ ρ') {d d' : Deferred} (h : DR ρ d d') : DR ρ' d d' := by
  cases h with
  | fn g cs ds as bs h h' => exact .fn g cs ds as bs (h.mono hl) (h'.mono hl)
  | collected b r h => exact .collected b r (hl _ _ h)

structure LR (ρ : Map) (l l' : Loop) : Prop where
  state : l'.state = l.state
  pending : l'.pending = l.pending
  fn : l'.fn = l.fn
  tmps : VRs ρ l.tmps.toList l'.tmps.toList
  params : l'.params = l.params
  assign : l'.assign = l.assign
  body : l'.body = l.body
  defers : ρ[l.defers]? = some (some (l'.defers, 0))

theorem LR.mono {ρ ρ' : Map} (hl : le ρ ρ') {d d' : Loop} (h : LR ρ d d') : LR ρ' d d' :=
  ⟨h.state, h.pending, h.fn, h.tmps.mono hl, h.params, h.assign, h.body, hl _ _ h.defers⟩

/-- a key -/
noncomputable def okK : Value → Bool
  | .agg cs => cs.toList.all okC
  | v => okC v

/-- the entries of a map -/
inductive ER (ρ : Map) : (Value × Value × Nat) → MapEntry → Prop
  | mk (k : Value) (v v' : Value) (b : Nat) (hk : okK k = true) (hv : VR ρ v v') : ER ρ (k, v, b) ⟨k, v', b⟩
theorem ER.mono {ρ ρ' : Map} (hl : le ρ ρ') {e : Value × Value × Nat} {e' : MapEntry} (h : ER ρ e e') : ER ρ' e e' := by
  cases h with
  | mk k v v' b hk hv => exact .mk k v v' b hk (hv.mono hl)

/-- a block stands for a real one from a place on -/
inductive OR (ρ : Map) : AO → Nat → Option Obj → Prop
  | cells (cs : List Value) (e : TypeId) (own : Nat × Nat) (d : Nat) (c : Array Value) (f : Nat × Nat) (hf : f.1 = f.2 ∨ c.size ≤ f.1) (hd : own.1 ≠ 7777777 → d = 0)
      (h : ∀ (o : Nat) (v : Value), cs[o]? = some v → ∃ v', c[d + o]? = some v' ∧ VR ρ v v') : OR ρ (.cells cs e own) d (some (.cells c e f))
  | dead (d : Nat) (x : Option Obj) : OR ρ .dead d x
  | room (d : Nat) (x : Option Obj) : OR ρ .room d x
  | fixed (cs : List Value) (d : Nat) (c : Array Value) (e : TypeId) (f : Nat × Nat) (h : ∀ (o : Nat) (v : Value), cs[o]? = some v → ∃ v', c[d + o]? = some v' ∧ VR ρ v v') : OR ρ (.fixed cs) d (some (.cells c e f))
  | loop (l l' : Loop) (h : LR ρ l l') : OR ρ (.loop l) 0 (some (.loop l'))
  | deferred (ds ds' : Option (List Deferred)) (h : OptR (LsR (DR ρ)) ds ds') : OR ρ (.deferred ds) 0 (some (.deferred ds'))
  | map (es : List (Value × Value × Nat)) (es' : List MapEntry) (c : Nat) (h : LsR (ER ρ) es es') : OR ρ (.map es c) 0 (some (.map ⟨es'⟩ c))
  | iter (m r since : Nat) (seen : List Nat) (last : Nat) (h : ρ[m]? = some (some (r, 0))) : OR ρ (.iter (some m) since seen last) 0 (some (.mapIter (some r) since ⟨seen⟩ last))
  | iter0 (since : Nat) (seen : List Nat) (last : Nat) : OR ρ (.iter none since seen last) 0 (some (.mapIter none since ⟨seen⟩ last))

theorem OR.mono {ρ ρ' : Map} (hl : le ρ ρ') {o : AO} {d : Nat} {x : Option Obj} (h : OR ρ o d x) : OR ρ' o d x := by
  cases h with
  | cells cs e own d c f hf hd h => exact .cells cs e own d c f hf hd (fun o v hv => let ⟨v', a, b⟩ := h o v hv; ⟨v', a, b.mono hl⟩)
  | dead d x => exact .dead d x
  | room d x => exact .room d x
  | fixed cs d c e f h => exact .fixed cs d c e f (fun o v hv => let ⟨v', a, b⟩ := h o v hv; ⟨v', a, b.mono hl⟩)
  | loop l l' h => exact .loop l l' (h.mono hl)
  | deferred ds ds' h => exact .deferred ds ds' (h.mono fun _ _ k => k.mono fun _ _ k => k.mono hl)
  | map es es' c h => exact .map es es' c (h.mono fun _ _ k => k.mono hl)
  | iter m r since seen last h => exact .iter m r since seen last (hl _ _ h)
  | iter0 since seen last => exact .iter0 since seen last

/-- may be written -/
def AO.own : AO → Bool
  | .dead | .room | .fixed _ => false
  | _ => true

/-- the room of a row -/
def Room (P : Program) (ρ : Map) (h : H) (hp : Array Obj) (b : Nat) : Prop :=
  ∃ r d k, ρ[b]? = some (some (r, d)) ∧ ρ[b + 1]? = some (some (r, k)) ∧ ∀ cs e own, h.get b = some (.cells cs e own) → ∃ c f, hp[r]? = some (.cells c e f) ∧ ∀ z, sizeA P e = some z → d + k * z ≤ c.size

structure HR (P : Program) (B : Nat) (ρ : Map) (h : H) (hp : Array Obj) : Prop where
  n : ρ.length = h.n
  base : B ≤ hp.size
  lt : ∀ (b r d : Nat), ρ[b]? = some (some (r, d)) → r < hp.size
  low : ∀ (b : Nat) (o : AO) (r d : Nat), h.get b = some o → o.own = true → ρ[b]? = some (some (r, d)) → B ≤ r
  glob : ∀ g, g < P.globals.size → ρ[g]? = some (some (g, 0))
  obj : ∀ (b : Nat) (o : AO) (r d : Nat), h.get b = some o → ρ[b]? = some (some (r, d)) → OR ρ o d hp[r]?
  inj : ∀ (b b' : Nat) (o o' : AO) (r d d' : Nat), h.get b = some o → o.live = true → h.get b' = some o' → o'.live = true → ρ[b]? = some (some (r, d)) → ρ[b']? = some (some (r, d')) → b = b'
  room : ∀ (b : Nat), h.get (b + 1) = some .room → Room P ρ h hp b
  k : FactsOk h.k
  old : ∀ (r : Nat) (o : Obj), Ev.heap r = some o → r < B ∧ hp[r]? = some o

variable {P : Program}

theorem app_lt {ρ l : Map} {b : Nat} (h : b < ρ.length) : (ρ ++ l)[b]? = ρ[b]? := List.getElem?_append_left h

/-- a new block is made at once -/
theorem HR.push {B : Nat} {ρ : Map} {h : H} {hp : Array Obj} (R : HR P B ρ h hp) (o : AO) (hlive : o.live = true) (x : Obj) (ho : OR (ρ ++ [some (hp.size, 0)]) o 0 (some x)) :
    HR P B (ρ ++ [some (hp.size, 0)]) (h.push o) (hp.push x) := by
  have hn := R.n
  have key : ∀ (b r d : Nat), (ρ ++ [some (hp.size, 0)])[b]? = some (some (r, d)) → (b = h.n ∧ r = hp.size ∧ d = 0) ∨ (b < h.n ∧ ρ[b]? = some (some (r, d))) := by
    intro b r d hb
    rcases Nat.lt_or_ge b ρ.length with hl | hl
    · rw [List.getElem?_append_left hl] at hb; exact .inr ⟨by omega, hb⟩
    · rw [List.getElem?_append_right hl] at hb
      have : b - ρ.length = 0 := by
        rcases Nat.eq_zero_or_pos (b - ρ.length) with h0 | h0
        · exact h0
        · rw [List.getElem?_eq_none (by simp; omega)] at hb; cases hb
      rw [this] at hb
      simp at hb
      exact .inl ⟨by omega, hb.1.symm, hb.2.symm⟩
  refine ⟨by simp [H.push, hn], by have := R.base; simp; omega, ?_, ?_, fun g hg => le.app _ _ g (g, 0) (R.glob g hg), ?_, ?_, ?_, R.k, fun r o hr => by have := R.old r o hr; have := R.base; exact ⟨by omega, by rw [Array.getElem?_push, if_neg (by omega)]; exact (R.old r o hr).2⟩⟩
  · intro b r d hb
    rcases key b r d hb with ⟨rfl, rfl, rfl⟩ | ⟨hl, hb⟩
    · simp
    · have := R.lt b r d hb; simp; omega
  · intro b o' r d hg hf hb
    rcases key b r d hb with ⟨rfl, rfl, rfl⟩ | ⟨hl, hb⟩
    · exact R.base
    · rcases H.get_push hg with ⟨rfl, _⟩ | ⟨_, hg⟩
      · omega
      · exact R.low b o' r d hg hf hb
  · intro b o' r d hg hb
    rcases key b r d hb with ⟨rfl, rfl, rfl⟩ | ⟨hl, hb⟩
    · rcases H.get_push hg with ⟨_, rfl⟩ | ⟨hl, _⟩
      · simpa using ho
      · omega
    · rcases H.get_push hg with ⟨rfl, _⟩ | ⟨_, hg⟩
      · omega
      · have h1 := R.obj b o' r d hg hb
        have h2 := R.lt b r d hb
        rw [Array.getElem?_push, if_neg (by omega)]
        exact h1.mono (le.app _ _)
  · intro b b' o1 o2 r d d' h1 l1 h2 l2 hb hb'
    rcases key b r d hb with ⟨rfl, rfl, rfl⟩ | ⟨hl, hb⟩ <;> rcases key b' _ d' hb' with ⟨rfl, hr, rfl⟩ | ⟨hl', hb'⟩
    · rfl
    · have := R.lt b' _ d' hb'; omega
    · have := R.lt b _ d hb; omega
    · rcases H.get_push h1 with ⟨rfl, _⟩ | ⟨_, h1⟩
      · omega
      rcases H.get_push h2 with ⟨rfl, _⟩ | ⟨_, h2⟩
      · omega
      exact R.inj b b' o1 o2 r d d' h1 l1 h2 l2 hb hb'
  · intro b hb
    rcases H.get_push hb with ⟨_, rfl⟩ | ⟨hl, hb⟩
    · cases hlive
    · obtain ⟨r, d, k, h1, h2, h3⟩ := R.room b hb
      refine ⟨r, d, k, by rw [app_lt (by omega)]; exact h1, by rw [app_lt (by omega)]; exact h2, fun cs e own hg => ?_⟩
      rcases H.get_push hg with ⟨hb0, _⟩ | ⟨_, hg⟩
      · omega
      · obtain ⟨c, f, k1, k2⟩ := h3 cs e own hg
        exact ⟨c, f, by rw [Array.getElem?_push, if_neg (by have := R.lt b r d h1; omega)]; exact k1, k2⟩

/-- a block that is laid ahead -/
theorem HR.lay {B : Nat} {ρ : Map} {h : H} {hp : Array Obj} (R : HR P B ρ h hp) (o : AO) (hlive : o.live = true) : HR P B (ρ ++ [none]) (h.push o) hp := by
  have hn := R.n
  have key : ∀ (b r d : Nat), (ρ ++ [none])[b]? = some (some (r, d)) → b < h.n ∧ ρ[b]? = some (some (r, d)) := by
    intro b r d hb
    rcases Nat.lt_or_ge b ρ.length with hl | hl
    · rw [List.getElem?_append_left hl] at hb; exact ⟨by omega, hb⟩
    · rw [List.getElem?_append_right hl] at hb
      rcases Nat.eq_zero_or_pos (b - ρ.length) with h0 | h0
      · rw [h0] at hb; simp at hb
      · rw [List.getElem?_eq_none (by simp; omega)] at hb; cases hb
  refine ⟨by simp [H.push, hn], R.base, ?_, ?_, fun g hg => le.app _ _ g (g, 0) (R.glob g hg), ?_, ?_, ?_, R.k, R.old⟩
  · intro b r d hb
    exact R.lt b r d (key b r d hb).2
  · intro b o' r d hg hf hb
    obtain ⟨hl, hb⟩ := key b r d hb
    rcases H.get_push hg with ⟨rfl, _⟩ | ⟨_, hg⟩
    · omega
    · exact R.low b o' r d hg hf hb
  · intro b o' r d hg hb
    obtain ⟨hl, hb⟩ := key b r d hb
    rcases H.get_push hg with ⟨rfl, _⟩ | ⟨_, hg⟩
    · omega
    · exact (R.obj b o' r d hg hb).mono (le.app _ _)
  · intro b b' o1 o2 r d d' h1 l1 h2 l2 hb hb'
    obtain ⟨hl, hb⟩ := key b r d hb
    obtain ⟨hl', hb'⟩ := key b' r d' hb'
    rcases H.get_push h1 with ⟨rfl, _⟩ | ⟨_, h1⟩
    · omega
    rcases H.get_push h2 with ⟨rfl, _⟩ | ⟨_, h2⟩
    · omega
    exact R.inj b b' o1 o2 r d d' h1 l1 h2 l2 hb hb'
  · intro b hb
    rcases H.get_push hb with ⟨_, rfl⟩ | ⟨hl, hb⟩
    · cases hlive
    · obtain ⟨r, d, k, h1, h2, h3⟩ := R.room b hb
      refine ⟨r, d, k, by rw [app_lt (by omega)]; exact h1, by rw [app_lt (by omega)]; exact h2, fun cs e own hg => ?_⟩
      rcases H.get_push hg with ⟨hb0, _⟩ | ⟨_, hg⟩
      · omega
      · exact h3 cs e own hg

theorem le.set {ρ : Map} {b : Nat} (hb : ρ[b]? = some none) (p : Nat × Nat) : le ρ (ρ.set b (some p)) := by
  intro i q hi
  have : b ≠ i := fun e => by subst e; rw [hb] at hi; simp at hi
  rw [List.getElem?_set_ne this]; exact hi

/-- a block that was laid ahead is made -/
theorem HR.make {B : Nat} {ρ : Map} {h : H} {hp : Array Obj} (R : HR P B ρ h hp) (b : Nat) (hb : ρ[b]? = some none) (x : Obj)
    (ho : ∀ o, h.get b = some o → OR (ρ.set b (some (hp.size, 0))) o 0 (some x)) :
    HR P B (ρ.set b (some (hp.size, 0))) h (hp.push x) := by
  have hlt : b < ρ.length := by
    rcases Nat.lt_or_ge b ρ.length with hl | hl
    · exact hl
    · rw [List.getElem?_eq_none hl] at hb; cases hb
  have key : ∀ (i r d : Nat), (ρ.set b (some (hp.size, 0)))[i]? = some (some (r, d)) → (i = b ∧ r = hp.size ∧ d = 0) ∨ (i ≠ b ∧ ρ[i]? = some (some (r, d))) := by
    intro i r d hi
    by_cases e : b = i
    · subst e
      rw [List.getElem?_set_self hlt] at hi
      simp at hi
      exact .inl ⟨rfl, hi.1.symm, hi.2.symm⟩
    · rw [List.getElem?_set_ne e] at hi; exact .inr ⟨fun e' => e e'.symm, hi⟩
  refine ⟨by simp [R.n], by have := R.base; simp; omega, ?_, ?_, fun g hg => le.set hb _ g (g, 0) (R.glob g hg), ?_, ?_, ?_, R.k, fun r o hr => by have := R.old r o hr; have := R.base; exact ⟨by omega, by rw [Array.getElem?_push, if_neg (by omega)]; exact (R.old r o hr).2⟩⟩
  · intro i r d hi
    rcases key i r d hi with ⟨rfl, rfl, rfl⟩ | ⟨_, hi⟩
    · simp
    · have := R.lt i r d hi; simp; omega
  · intro i o r d hg hf hi
    rcases key i r d hi with ⟨rfl, rfl, rfl⟩ | ⟨_, hi⟩
    · exact R.base
    · exact R.low i o r d hg hf hi
  · intro i o r d hg hi
    rcases key i r d hi with ⟨rfl, rfl, rfl⟩ | ⟨_, hi⟩
    · simpa using ho o hg
    · have h1 := R.obj i o r d hg hi
      have h2 := R.lt i r d hi
      rw [Array.getElem?_push, if_neg (by omega)]
      exact h1.mono (le.set hb _)
  · intro i j o1 o2 r d d' h1 l1 h2 l2 hi hj
    rcases key i r d hi with ⟨rfl, rfl, rfl⟩ | ⟨_, hi2⟩ <;> rcases key j _ d' hj with ⟨hj0, hr, rfl⟩ | ⟨_, hj2⟩
    · exact hj0.symm
    · have := R.lt j _ d' hj2; omega
    · have := R.lt i _ d hi2; omega
    · exact R.inj i j o1 o2 r d d' h1 l1 h2 l2 hi2 hj2
  · intro i hi
    obtain ⟨r, d, k, h1, h2, h3⟩ := R.room i hi
    refine ⟨r, d, k, le.set hb _ _ _ h1, le.set hb _ _ _ h2, fun cs e own hg => ?_⟩
    obtain ⟨c, f, k1, k2⟩ := h3 cs e own hg
    exact ⟨c, f, by rw [Array.getElem?_push, if_neg (by have := R.lt i r d h1; omega)]; exact k1, k2⟩

/-- a block is written -/
theorem HR.set {B : Nat} {ρ : Map} {h : H} {hp : Array Obj} (R : HR P B ρ h hp) (b r d : Nat) (hb : ρ[b]? = some (some (r, d))) (o₀ o : AO) (hg : h.get b = some o₀) (hlive : o₀.live = true) (hown : o₀.own = true)
    (hp' : Array Obj) (hsize : hp'.size = hp.size) (hother : ∀ i, i ≠ r → hp'[i]? = hp[i]?) (ho : OR ρ o d hp'[r]?) (hor : o ≠ .room)
    (hroom : ∀ cs e own, o = .cells cs e own → (∃ cs0 own0, o₀ = .cells cs0 e own0) ∧ ∀ c f, hp[r]? = some (.cells c e f) → ∃ c' f', hp'[r]? = some (.cells c' e f') ∧ c'.size = c.size) : HR P B ρ (h.set b o) hp' := by
  refine ⟨R.n, by rw [hsize]; exact R.base, fun i r d hi => by rw [hsize]; exact R.lt i r d hi, ?_, R.glob, ?_, ?_, ?_, R.k, fun r1 o1 hr => by have h1 := R.old r1 o1 hr; have h2 := R.low b o₀ r d hg hown hb; exact ⟨h1.1, by rw [hother r1 (by omega)]; exact h1.2⟩⟩
  · intro i o' r' d' hg' hf hi
    rcases H.get_set hg' with ⟨rfl, rfl⟩ | ⟨hne, hg'⟩
    · exact R.low i o₀ r' d' hg hown hi
    · exact R.low i o' r' d' hg' hf hi
  · intro i o' r' d' hg' hi
    rcases H.get_set hg' with ⟨rfl, rfl⟩ | ⟨hne, hg'⟩
    · rw [hb] at hi
      simp at hi
      obtain ⟨rfl, rfl⟩ := hi
      exact ho
    · by_cases hl : o'.live = true
      · have : r' ≠ r := fun e => hne (R.inj i b o' o₀ r' d' d hg' hl hg hlive hi (e ▸ hb))
        rw [hother _ this]
        exact R.obj i o' r' d' hg' hi
      · cases o' with
        | dead => exact .dead _ _
        | room => exact .room _ _
        | _ => exact absurd rfl hl
  · intro i j o1 o2 r d d' h1 l1 h2 l2 hi hj
    have f : ∀ k x, (h.set b o).get k = some x → x.live = true → ∃ y, h.get k = some y ∧ y.live = true := by
      intro k x hk hx
      rcases H.get_set hk with ⟨rfl, rfl⟩ | ⟨_, hk⟩
      · exact ⟨_, hg, hlive⟩
      · exact ⟨_, hk, hx⟩
    obtain ⟨y1, g1, m1⟩ := f i o1 h1 l1
    obtain ⟨y2, g2, m2⟩ := f j o2 h2 l2
    exact R.inj i j y1 y2 r d d' g1 m1 g2 m2 hi hj
  · intro i hi
    have hi' : h.get (i + 1) = some .room := by
      rcases H.get_set hi with ⟨_, rfl⟩ | ⟨_, hi⟩
      · exact absurd rfl hor
      · exact hi
    obtain ⟨r1, d1, k, h1, h2, h3⟩ := R.room i hi'
    refine ⟨r1, d1, k, h1, h2, fun cs e own hgi => ?_⟩
    rcases H.get_set hgi with ⟨rfl, rfl⟩ | ⟨hne, hgi⟩
    · rw [hb] at h1
      simp at h1
      obtain ⟨rfl, rfl⟩ := h1
      obtain ⟨⟨cs0, own0, rfl⟩, hr⟩ := hroom cs e own rfl
      obtain ⟨c, f, k1, k2⟩ := h3 cs0 e own0 hg
      obtain ⟨c', f', m1, m2⟩ := hr c f k1
      exact ⟨c', f', m1, fun z hz => by rw [m2]; exact k2 z hz⟩
    · have : r1 ≠ r := fun e' => hne (R.inj i b _ o₀ r1 d1 d hgi rfl hg hlive h1 (e' ▸ hb))
      rw [hother _ this]
      exact h3 cs e own hgi

/-- a block is given up, whatever is written into it -/
theorem HR.kill {B : Nat} {ρ : Map} {h : H} {hp : Array Obj} (R : HR P B ρ h hp) (b r d : Nat) (hb : ρ[b]? = some (some (r, d))) (o₀ : AO) (hg : h.get b = some o₀) (hlive : o₀.live = true) (hown : o₀.own = true)
    (hp' : Array Obj) (hsize : hp'.size = hp.size) (hother : ∀ i, i ≠ r → hp'[i]? = hp[i]?) : HR P B ρ (h.set b .dead) hp' :=
  R.set b r d hb o₀ .dead hg hlive hown hp' hsize hother (.dead _ _) (by intro h; cases h) (by intro cs e own h; cases h)

/-- a new name for a block that no live name has -/
theorem HR.name {B : Nat} {ρ : Map} {h : H} {hp : Array Obj} (R : HR P B ρ h hp) (o : AO) (hlive : o.live = true) (r d : Nat) (hr : B ≤ r ∧ r < hp.size)
    (free : ∀ (b : Nat) (o' : AO) (d' : Nat), h.get b = some o' → o'.live = true → ρ[b]? = some (some (r, d')) → False)
    (ho : OR (ρ ++ [some (r, d)]) o d hp[r]?) : HR P B (ρ ++ [some (r, d)]) (h.push o) hp := by
  have hn := R.n
  have key : ∀ (b r' d' : Nat), (ρ ++ [some (r, d)])[b]? = some (some (r', d')) → (b = h.n ∧ r' = r ∧ d' = d) ∨ (b < h.n ∧ ρ[b]? = some (some (r', d'))) := by
    intro b r' d' hb
    rcases Nat.lt_or_ge b ρ.length with hl | hl
    · rw [List.getElem?_append_left hl] at hb; exact .inr ⟨by omega, hb⟩
    · rw [List.getElem?_append_right hl] at hb
      have : b - ρ.length = 0 := by
        rcases Nat.eq_zero_or_pos (b - ρ.length) with h0 | h0
        · exact h0
        · rw [List.getElem?_eq_none (by simp; omega)] at hb; cases hb
      rw [this] at hb
      simp at hb
      exact .inl ⟨by omega, hb.1.symm, hb.2.symm⟩
  refine ⟨by simp [H.push, hn], R.base, ?_, ?_, fun g hg => le.app _ _ g (g, 0) (R.glob g hg), ?_, ?_, ?_, R.k, R.old⟩
  · intro b r' d' hb
    rcases key b r' d' hb with ⟨rfl, rfl, rfl⟩ | ⟨hl, hb⟩
    · exact hr.2
    · exact R.lt b r' d' hb
  · intro b o' r' d' hg hf hb
    rcases key b r' d' hb with ⟨rfl, rfl, rfl⟩ | ⟨hl, hb⟩
    · exact hr.1
    · rcases H.get_push hg with ⟨rfl, _⟩ | ⟨_, hg⟩
      · omega
      · exact R.low b o' r' d' hg hf hb
  · intro b o' r' d' hg hb
    rcases key b r' d' hb with ⟨rfl, rfl, rfl⟩ | ⟨hl, hb⟩
    · rcases H.get_push hg with ⟨_, rfl⟩ | ⟨hl, _⟩
      · exact ho
      · omega
    · rcases H.get_push hg with ⟨rfl, _⟩ | ⟨_, hg⟩
      · omega
      · exact (R.obj b o' r' d' hg hb).mono (le.app _ _)
  · intro b b' o1 o2 r' d1 d2 h1 l1 h2 l2 hb hb'
    rcases key b r' d1 hb with ⟨hb0, rfl, rfl⟩ | ⟨hl, hbb⟩ <;> rcases key b' _ d2 hb' with ⟨hb0', hr', rfl⟩ | ⟨hl', hbb'⟩
    · omega
    · rcases H.get_push h2 with ⟨hx, _⟩ | ⟨_, h2⟩
      · omega
      exact (free _ _ _ h2 l2 hbb').elim
    · subst hr'
      rcases H.get_push h1 with ⟨hx, _⟩ | ⟨_, h1⟩
      · omega
      exact (free _ _ _ h1 l1 hbb).elim
    · rcases H.get_push h1 with ⟨rfl, _⟩ | ⟨_, h1⟩
      · omega
      rcases H.get_push h2 with ⟨rfl, _⟩ | ⟨_, h2⟩
      · omega
      exact R.inj b b' o1 o2 r' d1 d2 h1 l1 h2 l2 hbb hbb'
  · intro b hb
    rcases H.get_push hb with ⟨_, rfl⟩ | ⟨hl, hb⟩
    · cases hlive
    · obtain ⟨r1, d1, k, h1, h2, h3⟩ := R.room b hb
      refine ⟨r1, d1, k, by rw [app_lt (by omega)]; exact h1, by rw [app_lt (by omega)]; exact h2, fun cs e own hg => ?_⟩
      rcases H.get_push hg with ⟨hb0, _⟩ | ⟨_, hg⟩
      · omega
      · exact h3 cs e own hg

/-- behind a row: its room -/
theorem HR.giveRoom {B : Nat} {ρ : Map} {h : H} {hp : Array Obj} (R : HR P B ρ h hp) (r d k : Nat) (b : Nat) (hbn : h.n = b + 1) (hb : ρ[b]? = some (some (r, d)))
    (hr : ∀ cs e own, h.get b = some (.cells cs e own) → ∃ c f, hp[r]? = some (.cells c e f) ∧ ∀ z, sizeA P e = some z → d + k * z ≤ c.size) :
    HR P B (ρ ++ [some (r, k)]) (h.push .room) hp := by
  have hn := R.n
  have key : ∀ (i r' d' : Nat), (ρ ++ [some (r, k)])[i]? = some (some (r', d')) → (i = h.n ∧ r' = r ∧ d' = k) ∨ (i < h.n ∧ ρ[i]? = some (some (r', d'))) := by
    intro i r' d' hi
    rcases Nat.lt_or_ge i ρ.length with hl | hl
    · rw [List.getElem?_append_left hl] at hi; exact .inr ⟨by omega, hi⟩
    · rw [List.getElem?_append_right hl] at hi
      have : i - ρ.length = 0 := by
        rcases Nat.eq_zero_or_pos (i - ρ.length) with h0 | h0
        · exact h0
        · rw [List.getElem?_eq_none (by simp; omega)] at hi; cases hi
      rw [this] at hi
      simp at hi
      exact .inl ⟨by omega, hi.1.symm, hi.2.symm⟩
  refine ⟨by simp [H.push, hn], R.base, ?_, ?_, fun g hg => le.app _ _ g (g, 0) (R.glob g hg), ?_, ?_, ?_, R.k, R.old⟩
  · intro i r' d' hi
    rcases key i r' d' hi with ⟨rfl, rfl, rfl⟩ | ⟨hl, hi⟩
    · exact R.lt b _ d hb
    · exact R.lt i r' d' hi
  · intro i o' r' d' hg hf hi
    rcases H.get_push hg with ⟨_, rfl⟩ | ⟨hl, hg⟩
    · cases hf
    · rw [app_lt (by omega)] at hi; exact R.low i o' r' d' hg hf hi
  · intro i o' r' d' hg hi
    rcases key i r' d' hi with ⟨rfl, rfl, rfl⟩ | ⟨hl, hi⟩
    · rcases H.get_push hg with ⟨_, rfl⟩ | ⟨hl, _⟩
      · exact .room _ _
      · omega
    · rcases H.get_push hg with ⟨rfl, _⟩ | ⟨_, hg⟩
      · omega
      · exact (R.obj i o' r' d' hg hi).mono (le.app _ _)
  · intro i j o1 o2 r' d1 d2 h1 l1 h2 l2 hi hj
    rcases H.get_push h1 with ⟨_, rfl⟩ | ⟨hl1, h1⟩
    · cases l1
    rcases H.get_push h2 with ⟨_, rfl⟩ | ⟨hl2, h2⟩
    · cases l2
    rw [app_lt (by omega)] at hi hj
    exact R.inj i j o1 o2 r' d1 d2 h1 l1 h2 l2 hi hj
  · intro i hi
    rcases H.get_push hi with ⟨hi0, _⟩ | ⟨hl, hi⟩
    · have : i = b := by omega
      subst this
      refine ⟨r, d, k, by rw [app_lt (by omega)]; exact hb, ?_, fun cs e own hg => ?_⟩
      · rw [List.getElem?_append_right (by omega)]
        have : i + 1 - ρ.length = 0 := by omega
        rw [this]; rfl
      · rcases H.get_push hg with ⟨hb0, _⟩ | ⟨_, hg⟩
        · omega
        · exact hr cs e own hg
    · obtain ⟨r1, d1, k1, h1, h2, h3⟩ := R.room i hi
      refine ⟨r1, d1, k1, by rw [app_lt (by omega)]; exact h1, by rw [app_lt (by omega)]; exact h2, fun cs e own hg => ?_⟩
      rcases H.get_push hg with ⟨hb0, _⟩ | ⟨_, hg⟩
      · omega
      · exact h3 cs e own hg

end Go.Sim

/- The abstract machine: operations that only yield a value. -/
namespace Go.Sim
open Go.RowKit
set_option linter.unusedVariables false
set_option linter.unusedSimpArgs false
set_option linter.unusedSectionVars false
variable [Ev]

variable {P : Program} {B : Nat} {ρ : Map} {h : H} {w : World}

theorem sizeA_some {t : TypeId} {n : Nat} (e : sizeA P t = some n) (w : World) : (sizeOf t).run P w = .ok n w := by
  unfold sizeA at e
  cases hi : P.info? t with
  | none => simp [hi] at e
  | some i => simp [hi] at e; simp [sizeOf, typeInfo, hi, e]

theorem isAggB_some {t : TypeId} {b : Bool} (e : isAggB P t = some b) (w : World) : (isAgg t).run P w = .ok b w := by
  unfold isAggB at e
  cases hi : P.underlying t with
  | none => simp [hi] at e
  | some i =>
    cases i <;> simp [hi] at e <;> subst e <;> simp [isAgg, underlying, hi]

theorem zero_some {t : TypeId} {z : Value} (e : (P.info? t).bind (·.zero) = some z) (w : World) : (zeroValue t).run P w = .ok z w := by
  cases hi : P.info? t with
  | none => simp [hi] at e
  | some i => simp [hi] at e; simp [zeroValue, typeInfo, hi, e]

/-- a run of cells is loaded -/
theorem run_loadCellsFrom (r p : Nat) : ∀ (L : List Value) (i : Nat) (acc : Array Value) (w : World), (∀ (j : Nat) (v : Value), L[j]? = some v → w.cell? ⟨r, p + i + j, none⟩ = some v) →
    (loadCellsFrom ⟨r, p, none⟩ i L.length acc).run P w = .ok (acc ++ L.toArray) w
  | [], i, acc, w, _ => by simp [loadCellsFrom]
  | v :: L, i, acc, w, hc => by
    have h0 : w.cell? (Addr.add ⟨r, p, none⟩ i) = some v := by
      rw [Addr.add_lit]; exact hc 0 v (by simp)
    have ih := run_loadCellsFrom r p L (i + 1) (acc.push v) w (fun j u hu => by
      have := hc (j + 1) u (by simpa using hu)
      rwa [show p + i + (j + 1) = p + (i + 1) + j from by omega] at this)
    simp only [List.length_cons, loadCellsFrom, load, Sem.run_bind, Sem.run, h0, Result.andThen_ok]
    rw [ih]
    simp

theorem run_loadCells (r p : Nat) (L : List Value) (w : World) (hc : ∀ (j : Nat) (v : Value), L[j]? = some v → w.cell? ⟨r, p + j, none⟩ = some v) :
    (loadCells ⟨r, p, none⟩ L.length).run P w = .ok L.toArray w := by
  unfold loadCells
  rw [run_loadCellsFrom r p L 0 #[] w (fun j v hv => by simpa using hc j v hv)]
  simp

/-- what a live block holds -/
theorem HR.cellsOf (R : HR P B ρ h w.heap) {b : Nat} {cs : List Value} {e : TypeId} {own : Nat × Nat} (g : h.get b = some (.cells cs e own)) {r d : Nat} (hb : ρ[b]? = some (some (r, d))) :
    ∃ (c : Array Value) (f : Nat × Nat), w.heap[r]? = some (.cells c e f) ∧ (f.1 = f.2 ∨ c.size ≤ f.1) ∧ (∀ (o : Nat) (v : Value), cs[o]? = some v → ∃ v', c[d + o]? = some v' ∧ VR ρ v v') := by
  have k := R.obj b _ r d g hb
  generalize hx : w.heap[r]? = x at k
  cases k with
  | cells _ _ _ _ c f hf hd hh => exact ⟨c, f, rfl, hf, hh⟩

theorem HR.zeroAt (R : HR P B ρ h w.heap) {b : Nat} {cs : List Value} {e : TypeId} {own : Nat × Nat} (g : h.get b = some (.cells cs e own)) {r d : Nat} (hb : ρ[b]? = some (some (r, d))) : own.1 ≠ 7777777 → d = 0 := by
  have k := R.obj b _ r d g hb
  generalize hx : w.heap[r]? = x at k
  cases k with
  | cells _ _ _ _ c f hf hd hh => exact hd

/-- what a row reads as -/
theorem HR.rowsOf (R : HR P B ρ h w.heap) {b : Nat} {cs : List Value} (g : (h.get b).bind rowOf = some cs) {r d : Nat} (hb : ρ[b]? = some (some (r, d))) :
    ∃ (c : Array Value) (e : TypeId) (f : Nat × Nat), w.heap[r]? = some (.cells c e f) ∧ (∀ (o : Nat) (v : Value), cs[o]? = some v → ∃ v', c[d + o]? = some v' ∧ VR ρ v v') := by
  cases hg : h.get b with
  | none => rw [hg] at g; cases g
  | some ob =>
    rw [hg] at g
    have k := R.obj b _ r d hg hb
    generalize hx : w.heap[r]? = x at k
    cases ob <;> simp only [Option.bind_some, rowOf] at g <;> cases g
    · cases k with
      | cells _ _ _ _ c f hf hd hh => exact ⟨c, _, f, rfl, hh⟩
    · cases k with
      | fixed _ _ c e f hh => exact ⟨c, e, f, rfl, hh⟩

theorem HR.cell (R : HR P B ρ h w.heap) {b : Nat} {cs : List Value} (g : (h.get b).bind rowOf = some cs) {r d : Nat} (hb : ρ[b]? = some (some (r, d)))
    {o : Nat} {v : Value} (hv : cs[o]? = some v) : ∃ v', w.cell? ⟨r, d + o, none⟩ = some v' ∧ VR ρ v v' := by
  obtain ⟨c, e, f, hw, hh⟩ := R.rowsOf g hb
  obtain ⟨v', h1, h2⟩ := hh o v hv
  exact ⟨v', by simp [World.cell?, hw, h1], h2⟩

/-- a stretch of a live block -/
theorem HR.row (R : HR P B ρ h w.heap) {b : Nat} {cs : List Value} (g : (h.get b).bind rowOf = some cs) {r d : Nat} (hb : ρ[b]? = some (some (r, d)))
    (o n : Nat) (q : List Value) (hq : takeX n (cs.drop o) = some q) :
    ∃ L : List Value, L.length = n ∧ VRs ρ q L ∧ ∀ (j : Nat) (v : Value), L[j]? = some v → w.cell? ⟨r, d + o + j, none⟩ = some v := by
  obtain ⟨rfl, hl⟩ := takeX_spec _ _ _ hq
  obtain ⟨c, e, f, hw, hh⟩ := R.rowsOf g hb
  simp only [List.length_drop] at hl
  have hsz : ∀ j, j < n → d + o + j < c.size := fun j hj => by
    have hlt : o + j < cs.length := by omega
    obtain ⟨v', h1, _⟩ := hh (o + j) cs[o + j] (List.getElem?_eq_getElem hlt)
    have := (Array.getElem?_eq_some_iff.1 h1).1
    omega
  refine ⟨(c.toList.drop (d + o)).take n, ?_, ?_, ?_⟩
  · simp only [List.length_take, List.length_drop, Array.length_toList]
    rcases Nat.eq_zero_or_pos n with h0 | h0
    · omega
    · have := hsz (n - 1) (by omega); omega
  · refine VRs.of_get _ _ ?_ ?_
    · simp only [List.length_take, List.length_drop, Array.length_toList]
      rcases Nat.eq_zero_or_pos n with h0 | h0
      · omega
      · have := hsz (n - 1) (by omega); omega
    · intro i v v' h1 h2
      rw [List.getElem?_take] at h1 h2
      split at h1
      · rename_i hi
        rw [if_pos hi] at h2
        rw [List.getElem?_drop] at h1 h2
        obtain ⟨u, k1, k2⟩ := hh (o + i) v h1
        have : c[d + o + i]? = some v' := by simpa using h2
        rw [show d + (o + i) = d + o + i from by omega, this] at k1
        cases k1
        exact k2
      · cases h1
  · intro j v hj
    rw [List.getElem?_take] at hj
    split at hj
    · rw [List.getElem?_drop] at hj
      have : c[d + o + j]? = some v := by simpa using hj
      simp [World.cell?, hw, this]
    · cases hj

theorem loadA_sound (R : HR P B ρ h w.heap) {t : TypeId} {a a' v : Value} {fp : List Nat} (e : loadA P h t a = some (v, fp)) (ha : VR ρ a a') :
    ∃ v', (Instr.loadAt t a').run P w = .ok v' w ∧ VR ρ v v' := by
  unfold loadA at e
  split at e
  · rename_i b o
    cases ha with
    | ptr _ _ r d hb =>
      cases g : (h.get b).bind rowOf with
      | none => simp [g] at e
      | some cs =>
        simp only [g] at e
        cases hi : isAggB P t with
        | none => simp [hi] at e
        | some bb =>
          cases bb
          · simp only [hi] at e
            cases hc : cs[o]? with
            | none => simp [hc] at e
            | some u =>
              simp only [hc] at e
              cases hcb : cellB u <;> rw [hcb] at e <;> simp only [cond_true, cond_false] at e
              · cases e
              cases e
              obtain ⟨v', h1, h2⟩ := R.cell g hb hc
              exact ⟨v', by simp [Instr.loadAt, Instr.sureAddr, loadVar, isAggB_some hi, load, Sem.run, h1], h2⟩
          · simp only [hi] at e
            cases hs : sizeA P t with
            | none => simp [hs] at e
            | some n =>
              simp only [hs] at e
              cases hq : takeX n (cs.drop o) with
              | none => simp [hq] at e
              | some q =>
                simp only [hq] at e
                cases e
                obtain ⟨L, hL, hV, hc⟩ := R.row g hb o n q hq
                have := run_loadCells (P := P) r (d + o) L w hc
                rw [hL] at this
                exact ⟨.agg ⟨L⟩, by simp [Instr.loadAt, Instr.sureAddr, loadVar, isAggB_some hi, sizeA_some hs, this], .agg _ _ hV⟩
  · cases e

theorem extract_mk (l : List Value) (o n : Nat) : (Array.mk l).extract o (o + n) = ⟨(l.drop o).take n⟩ := by
  apply Array.ext'
  simp [Array.toList_extract, List.extract]

theorem partA_sound {t : TypeId} {cs cs' : List Value} {off : Nat} {v : Value} (e : partA P t ⟨cs⟩ off = some v) (hv : VRs ρ cs cs') (w : World) :
    ∃ v', (part t ⟨cs'⟩ off).run P w = .ok v' w ∧ VR ρ v v' := by
  unfold partA at e
  cases hi : isAggB P t with
  | none => simp [hi] at e
  | some bb =>
    cases bb
    · simp only [hi] at e
      obtain ⟨v', h1, h2⟩ := hv.get off v e
      exact ⟨v', by simp [part, isAggB_some hi, h1], h2⟩
    · simp only [hi] at e
      cases hs : sizeA P t with
      | none => simp [hs] at e
      | some n =>
        simp only [hs] at e
        cases hq : takeX n (cs.drop off) with
        | none => simp [hq] at e
        | some q =>
          simp only [hq] at e
          cases e
          obtain ⟨rfl, hl⟩ := takeX_spec _ _ _ hq
          refine ⟨.agg ⟨(cs'.drop off).take n⟩, ?_, ?_⟩
          · simp [part, isAggB_some hi, sizeA_some hs, extract_mk]
          · refine .agg _ _ ?_
            have hd := hv.drop off
            refine VRs.of_get _ _ ?_ ?_
            · have := hd.length; simp only [List.length_take]; omega
            · intro i v v' h1 h2
              rw [List.getElem?_take] at h1 h2
              split at h1
              · rename_i hi'
                rw [if_pos hi'] at h2
                obtain ⟨u, k1, k2⟩ := hd.get i v h1
                rw [h2] at k1; cases k1; exact k2
              · cases h1

theorem strEq_eq (x y : ByteArray) : strEq x y = (x.toList == y.toList) := by
  simp [strEq, ByteArray.toList_eq]

theorem bytesLess_eq (x y : ByteArray) : Op.bytesLess x.toList y.toList = Op.bytesLess x.data.toList y.data.toList := by
  rw [ByteArray.toList_eq, ByteArray.toList_eq]

theorem append_mk (x y : ByteArray) : x ++ y = ⟨⟨x.data.toList ++ y.data.toList⟩⟩ := by
  apply ByteArray.ext
  apply Array.ext'
  simp

theorem strBin_sound {op : BinOp} {x y : ByteArray} {v : Value} (e : strBin op x y = some v) (w : World) : (Op.stringOp op x y).run P w = .ok v w := by
  unfold strBin at e
  simp only [strEq_eq, ← bytesLess_eq] at e
  unfold Op.stringOp
  cases op <;> simp only [] at e <;> try (cases e; done)
  case add =>
    cases hb : Nat.ble (x.size + y.size) 1000000
    · simp [hb] at e
    · simp only [hb, cond_true] at e
      cases e
      have : x.size + y.size ≤ 1000000 := by simpa [Nat.ble_eq] using hb
      have hm : ¬ (((x.size + y.size : Nat) : Int) > IntKind.i64.max) := by rw [IntKind.max_i64]; omega
      simp only [hm, if_false]
      rw [append_mk]; rfl
  all_goals (cases e; rfl)

theorem intBin_sound {op : BinOp} {k : IntKind} {a b : Int} {v : Value} (e : intBin op k a b = some v) (t : TypeId) (w : World) : (binOp op t (.int k a) (.int k b)).run P w = .ok v w := by
  cases op <;> simp only [intBin] at e <;> try (cases e; done)
  case quo =>
    cases hb : b == 0
    · rw [hb] at e; cases e
      have : b ≠ 0 := by simpa using hb
      simp [binOp_quo, Op.intDiv, this]
    · rw [hb] at e; cases e
  case rem =>
    cases hb : b == 0
    · rw [hb] at e; cases e
      have : b ≠ 0 := by simpa using hb
      simp [binOp_rem, Op.intDiv, this]
    · rw [hb] at e; cases e
  all_goals (cases e; simp [binOp_add, binOp_sub, binOp_mul, binOp_and, binOp_or, binOp_xor, binOp_andNot, binOp_eql, binOp_neq, binOp_lss, binOp_leq, binOp_gtr, binOp_geq, Op.intArith, Op.intBits])

theorem kOf_kno (k : IntKind) : kOf (kno k) = some k := by cases k <;> rfl
theorem kOf_some {a : Nat} {k : IntKind} (h : kOf a = some k) : a = kno k := by
  unfold kOf at h
  split at h <;> cases h <;> rfl

theorem VR.chan {a : Nat} {x' : Value} (h : VR ρ (.chan (some a)) x') : (∃ k n, a = kno k ∧ x' = .int k n) ∨ (a = 20 ∧ ∃ s, x' = .string s) ∨ (a = 21 ∧ ∃ p n c, x' = .slice p n c) ∨ (a = 22 ∧ ∃ b, x' = .bool b) := by
  generalize hv : Value.chan (some a) = v at h
  cases h <;> cases hv
  case topI k n => exact .inl ⟨k, n, rfl, rfl⟩
  case topS s => exact .inr (.inl ⟨rfl, s, rfl⟩)
  case topL p n c => exact .inr (.inr (.inl ⟨rfl, p, n, c, rfl⟩))
  case topB b => exact .inr (.inr (.inr ⟨rfl, b, rfl⟩))

theorem kindOf_rel {x x' : Value} {k : IntKind} (hk : kindOf x = some k) (hx : VR ρ x x') : ∃ n, x' = .int k n := by
  unfold kindOf at hk
  split at hk
  · cases hk; cases hx; exact ⟨_, rfl⟩
  · rename_i a
    rcases hx.chan with ⟨k', n, rfl, rfl⟩ | ⟨rfl, _⟩ | ⟨rfl, _⟩ | ⟨rfl, _⟩
    · rw [kOf_kno] at hk; cases hk; exact ⟨n, rfl⟩
    · simp [kOf] at hk
    · simp [kOf] at hk
    · simp [kOf] at hk
  · cases hk

theorem topBin_sound {op : BinOp} {x y x' y' v : Value} (e : topBin op x y = some v) (hx : VR ρ x x') (hy : VR ρ y y') (t : TypeId) (w : World) :
    ∃ v', (binOp op t x' y').run P w = .ok v' w ∧ VR ρ v v' := by
  cases op <;> simp only [topBin] at e <;> try (cases e; done)
  case quo | rem =>
    cases hk : kindOf x with
    | none => simp [hk] at e
    | some j =>
      simp only [hk] at e
      split at e
      · rename_i hj
        cases hj
        rename_i k n
        cases hb : j == k && !(n == 0) <;> rw [hb] at e <;> simp only [cond_true, cond_false] at e
        · cases e
        cases e
        simp at hb
        obtain ⟨rfl, hn⟩ := hb
        obtain ⟨m, rfl⟩ := kindOf_rel hk hx
        cases hy
        simp only [binOp_quo, binOp_rem, Op.intDiv, hn, if_false, Sem.run_pure]
        exact ⟨_, rfl, .topI _ _⟩
      · cases e
  case shl | shr =>
    cases hk : kindOf x with
    | none => simp [hk] at e
    | some j =>
      simp only [hk] at e
      split at e
      · rename_i hj
        cases hj
        rename_i k n
        cases hb : decide (n < 0) <;> rw [hb] at e <;> simp only [cond_true, cond_false] at e
        · cases e
          have hn : ¬ n < 0 := by simpa using hb
          obtain ⟨m, rfl⟩ := kindOf_rel hk hx
          cases hy
          simp only [binOp_shl, binOp_shr, Op.shift, hn, if_false, Sem.run_pure]
          exact ⟨_, rfl, .topI _ _⟩
        · cases e
      · cases e
  all_goals
    cases hk : kindOf x with
    | none => simp [hk] at e
    | some j =>
      cases hk' : kindOf y with
      | none => simp [hk, hk'] at e
      | some k =>
        simp only [hk, hk'] at e
        cases hb : j == k <;> rw [hb] at e <;> simp only [cond_true, cond_false] at e
        · cases e
        cases e
        simp at hb
        subst hb
        obtain ⟨m, rfl⟩ := kindOf_rel hk hx
        obtain ⟨m', rfl⟩ := kindOf_rel hk' hy
        simp only [binOp_add, binOp_sub, binOp_mul, binOp_and, binOp_or, binOp_xor, binOp_andNot, Op.intArith, Op.intBits, Sem.run_pure]
        exact ⟨_, rfl, .topI _ _⟩

theorem strEq_beq (x y : ByteArray) : strEq x y = (x == y) := by
  obtain ⟨⟨a⟩⟩ := x
  obtain ⟨⟨b⟩⟩ := y
  show (a == b) = (Array.mk a == Array.mk b)
  simp

theorem eqFs_sound {n : Nat} {eq : TypeId → Value → Value → Option Bool} {w : World} (heq : ∀ (t : TypeId) (a b a' b' : Value) (r : Bool), eq t a b = some r → VR ρ a a' → VR ρ b b' → (Op.equalIn n t a' b').run P w = .ok r w)
    {xs ys xs' ys' : List Value} (hx : VRs ρ xs xs') (hy : VRs ρ ys ys') : ∀ (fs : List Field) (r : Bool), eqFs P eq ⟨xs⟩ ⟨ys⟩ fs = some r → (Op.eqFields n ⟨xs'⟩ ⟨ys'⟩ fs).run P w = .ok r w
  | [], r, e => by simp [eqFs] at e; subst e; simp [Op.eqFields]
  | f :: fs, r, e => by
    simp only [eqFs] at e
    unfold Op.eqFields
    cases hn : f.name == "_" with
    | true =>
      rw [hn] at e
      have : ¬ f.name ≠ "_" := by simpa using hn
      rw [if_neg this]
      exact eqFs_sound heq hx hy fs r e
    | false =>
      rw [hn] at e
      simp only [cond_false] at e
      have : f.name ≠ "_" := by simpa using hn
      rw [if_pos this]
      cases ha : partA P f.type ⟨xs⟩ f.offset with
      | none => simp [ha] at e
      | some a =>
        cases hb : partA P f.type ⟨ys⟩ f.offset with
        | none => simp [ha, hb] at e
        | some b =>
          simp only [ha, hb] at e
          obtain ⟨a', h1, h2⟩ := partA_sound ha hx w
          obtain ⟨b', h3, h4⟩ := partA_sound hb hy w
          cases hq : eq f.type a b with
          | none => simp [hq] at e
          | some q =>
            simp only [hq] at e
            have h5 := heq f.type a b a' b' q hq h2 h4
            simp only [Sem.run_bind, h1, h3, h5, Result.andThen_ok]
            cases q with
            | false => cases e; simp
            | true =>
              simp only [Bool.not_true, Bool.false_eq_true, if_false]
              exact eqFs_sound heq hx hy fs r e

theorem eqIs_sound {n : Nat} {eq : TypeId → Value → Value → Option Bool} {w : World} (heq : ∀ (t : TypeId) (a b a' b' : Value) (r : Bool), eq t a b = some r → VR ρ a a' → VR ρ b b' → (Op.equalIn n t a' b').run P w = .ok r w)
    {xs ys xs' ys' : List Value} (hx : VRs ρ xs xs') (hy : VRs ρ ys ys') {e : TypeId} {c : Nat} : ∀ (is : List Nat) (r : Bool), eqIs P eq e c ⟨xs⟩ ⟨ys⟩ is = some r → (Op.eqItems n e c ⟨xs'⟩ ⟨ys'⟩ is).run P w = .ok r w
  | [], r, h => by simp [eqIs] at h; subst h; simp [Op.eqItems]
  | i :: is, r, h => by
    simp only [eqIs] at h
    unfold Op.eqItems
    cases ha : partA P e ⟨xs⟩ (i * c) with
    | none => simp [ha] at h
    | some a =>
      cases hb : partA P e ⟨ys⟩ (i * c) with
      | none => simp [ha, hb] at h
      | some b =>
        simp only [ha, hb] at h
        obtain ⟨a', h1, h2⟩ := partA_sound ha hx w
        obtain ⟨b', h3, h4⟩ := partA_sound hb hy w
        cases hq : eq e a b with
        | none => simp [hq] at h
        | some q =>
          simp only [hq] at h
          have h5 := heq e a b a' b' q hq h2 h4
          simp only [Sem.run_bind, h1, h3, h5, Result.andThen_ok]
          cases q with
          | false => cases h; simp
          | true =>
            simp only [Bool.not_true, Bool.false_eq_true, if_false]
            exact eqIs_sound heq hx hy is r h

set_option maxHeartbeats 4000000 in
theorem eqA_sound : ∀ {d : Nat} {t : TypeId} {x y x' y' : Value} {b : Bool} (e : eqA d P t x y = some b) (hx : VR ρ x x') (hy : VR ρ y y') (w : World) (n : Nat), d ≤ n → (Op.equalIn n t x' y').run P w = .ok b w
  | 0, t, x, y, x', y', b, e, hx, hy, w, n, hd => by simp [eqA] at e
  | d + 1, t, x, y, x', y', b, e, hx, hy, w, 0, hd => by omega
  | d + 1, t, x, y, x', y', b, e, hx, hy, w, n + 1, hd => by
    by_cases hag : ∃ fs xs ys, P.underlying t = some (.struct fs) ∧ x = .agg xs ∧ y = .agg ys
    · obtain ⟨fs, xs, ys, hu, rfl, rfl⟩ := hag
      simp only [eqA, hu] at e
      cases hst : P.stoodInHeld t with
      | true => rw [hst] at e; cases e
      | false =>
        rw [hst] at e
        simp only [cond_false] at e
        cases hx with
        | agg cs ds h1 => cases hy with
          | agg cs2 ds2 h2 =>
            have hf : P.fieldsOf t = fs := by unfold Program.fieldsOf; rw [hu]
            rw [run_equalIn_struct w n t ⟨ds⟩ ⟨ds2⟩ (by rw [hf]; exact hu) hst, hf]
            exact eqFs_sound (fun t a b a' b' r h3 h4 h5 => eqA_sound h3 h4 h5 w n (by omega)) h1 h2 _ _ e
    by_cases har : ∃ n e xs ys, P.underlying t = some (.array n e) ∧ x = .agg xs ∧ y = .agg ys
    · obtain ⟨len, el, xs, ys, hu, rfl, rfl⟩ := har
      simp only [eqA, hu] at e
      cases hi : P.info? el with
      | none => simp [hi] at e
      | some i =>
        simp only [hi] at e
        have hc : P.cellsOf el = i.size := by unfold Program.cellsOf; rw [hi]; rfl
        cases hx with
        | agg cs ds h1 => cases hy with
          | agg cs2 ds2 h2 =>
            rw [run_equalIn_array w n ⟨ds⟩ ⟨ds2⟩ hu hi, hc]
            exact eqIs_sound (fun t a b a' b' r h3 h4 h5 => eqA_sound h3 h4 h5 w n (by omega)) h1 h2 _ _ e
    · rw [Op.equalIn]
      simp only [eqA] at e
      split at e
      all_goals first | (cases e; done) | skip
      all_goals (rename_i hu)
      case h_10 => exact absurd ⟨_, _, _, hu, rfl, rfl⟩ hag
      case h_11 => exact absurd ⟨_, _, _, _, hu, rfl, rfl⟩ har
      all_goals (cases hx <;> cases hy)
      all_goals (simp only [Sem.run_bind, run_underlying hu, Result.andThen_ok])
      case h_2.int.int =>
        rename_i k a k' a'
        cases hb : k == k' <;> rw [hb] at e <;> simp only [cond_true, cond_false] at e <;> cases e
        simp at hb
        subst hb
        simp only [if_true, Sem.run_pure]
      case h_3.string.string => cases e; rw [strEq_beq]; rfl
      case h_15.ptr.ptr =>
        rename_i el b1 o1 b2 o2 r1 d1 h1 r2 d2 h2
        split at e <;> try (cases e; done)
        rename_i m hsz
        cases hb : Nat.beq b1 b2 <;> rw [hb] at e <;> simp only [cond_true, cond_false] at e <;> cases e
        have hb' := Nat.eq_of_beq_eq_true hb
        subst hb'
        rw [h1] at h2
        simp only [Option.some.injEq, Prod.mk.injEq] at h2
        obtain ⟨rfl, rfl⟩ := h2
        simp only [Sem.run_bind, sizeA_some hsz, Result.andThen_ok, ne_eq, Nat.succ_ne_zero, not_false_eq_true, if_true, sameAddr, beq_self_eq_true, Sem.run_pure]
        congr 1
        by_cases ho : o1 = o2
        · subst ho; simp
        · have : d1 + o1 ≠ d1 + o2 := by omega
          have hne : Nat.beq o1 o2 = false := by
            cases hq : Nat.beq o1 o2
            · rfl
            · exact absurd (Nat.eq_of_beq_eq_true hq) ho
          rw [hne]
          simpa using this
      all_goals first | (cases e; rfl) | (rename_i hh; exact absurd rfl hh) | (rename_i hh _ _; exact absurd rfl hh) | (rename_i hh _; exact absurd rfl hh) | (exfalso; simp_all; done)

theorem run_eqGuard {op : BinOp} {t : TypeId} {x y : Operand} {a b : Value} (h : (∀ p, a ≠ .agg p) ∧ a ≠ .nilIface) (w : World) : (eqGuard op t x y a b).run P w = .ok () w := by
  cases a <;> simp [go_sem] at h ⊢ <;> rfl

end Go.Sim

/- The abstract machine: operations that only yield a value, 2. -/
namespace Go.Sim
open Go.RowKit
set_option linter.unusedVariables false
set_option linter.unusedSimpArgs false
set_option linter.unusedSectionVars false
variable [Ev]

variable {P : Program} {B : Nat} {ρ : Map} {h : H} {w : World}

def shapeOk : Value → Bool
  | .bool _ | .pointer _ | .slice .. | .func .. | .nilFunc | .map _ => true
  | _ => false

theorem binOp_eql_shape (t : TypeId) (x y : Value) (hx : shapeOk x = true) (hy : shapeOk y = true) : binOp .eql t x y = (do pure (.bool (← Op.equal t x y))) := by
  cases x <;> simp only [shapeOk] at hx <;> first | (cases hx; done) | skip
  all_goals (cases y <;> simp only [shapeOk] at hy <;> first | (cases hy; done) | rfl)
theorem binOp_neq_shape (t : TypeId) (x y : Value) (hx : shapeOk x = true) (hy : shapeOk y = true) : binOp .neq t x y = (do pure (.bool (!(← Op.equal t x y)))) := by
  cases x <;> simp only [shapeOk] at hx <;> first | (cases hx; done) | skip
  all_goals (cases y <;> simp only [shapeOk] at hy <;> first | (cases hy; done) | rfl)

theorem eqA_shape {d : Nat} {t : TypeId} {x y x' y' : Value} {b : Bool} (e : eqA d P t x y = some b) (hx : VR ρ x x') (hy : VR ρ y y')
    (hi : ∀ k a k' b', x = .int k a → y = .int k' b' → False) (hs : ∀ a b', x = .string a → y = .string b' → False) (hg : ∀ a, x = .agg a → False) : shapeOk x' = true ∧ shapeOk y' = true := by
  cases d with
  | zero => simp [eqA] at e
  | succ d =>
    simp only [eqA] at e
    split at e
    all_goals first | (cases e; done) | skip
    case h_2 => exact (hi _ _ _ _ rfl rfl).elim
    case h_3 => exact (hs _ _ rfl rfl).elim
    case h_10 => exact (hg _ rfl).elim
    case h_11 => exact (hg _ rfl).elim
    all_goals (cases hx <;> cases hy)
    all_goals first | exact ⟨rfl, rfl⟩ | (exfalso; simp_all; done)

theorem binA_sound {op : BinOp} {t : TypeId} {x y x' y' v : Value} (e : binA P op t x y = some v) (hx : VR ρ x x') (hy : VR ρ y y') (X Y : Operand) (w : World) :
    ∃ v', (do eqGuard op t X Y x' y'; binOp op t x' y' : Sem Value).run P w = .ok v' w ∧ VR ρ v v' := by
  simp only [binA] at e
  split at e
  · -- ints
    rename_i k a k' b
    cases hx; cases hy
    simp only [Sem.run_bind, eqGuard_at_int, Sem.run_pure, Result.andThen_ok]
    split at e
    · cases hb : decide (b < 0) <;> rw [hb] at e <;> simp only [cond_true, cond_false] at e <;> cases e
      have hn : ¬ b < 0 := by simpa using hb
      simp only [binOp_shl, Op.shift, hn, if_false, Sem.run_pure]
      exact ⟨_, rfl, .int _ _⟩
    · cases hb : decide (b < 0) <;> rw [hb] at e <;> simp only [cond_true, cond_false] at e <;> cases e
      have hn : ¬ b < 0 := by simpa using hb
      simp only [binOp_shr, Op.shift, hn, if_false, Sem.run_pure]
      exact ⟨_, rfl, .int _ _⟩
    · cases hb : k == k' <;> rw [hb] at e <;> simp only [cond_true, cond_false] at e
      · cases e
      simp at hb
      subst hb
      refine ⟨v, intBin_sound e t w, ?_⟩
      have : okC v = true := by
        revert e
        cases op <;> simp only [intBin] <;> intro e <;> first | (cases e; done) | (cases e; rfl) | skip
        all_goals (cases hb : b == 0 <;> rw [hb] at e <;> cases e; rfl)
      exact .const ρ v this
  · -- strings
    cases hx; cases hy
    simp only [Sem.run_bind, eqGuard_at_string, Sem.run_pure, Result.andThen_ok]
    rename_i a b
    refine ⟨v, ?_, ?_⟩
    · rw [show binOp op t (.string a) (.string b) = Op.stringOp op a b from by cases op <;> rfl]
      exact strBin_sound e w
    · have : okC v = true := by
        revert e
        cases op <;> simp only [strBin] <;> intro e <;> first | (cases e; done) | (cases e; rfl) | skip
        all_goals (cases hb : Nat.ble (a.size + b.size) 1000000 <;> rw [hb] at e <;> cases e; rfl)
      exact .const ρ v this
  · -- structs
    rename_i xs ys
    cases hgt : P.eqGuardType P.depth t with
    | true => rw [hgt] at e; cases e
    | false =>
      rw [hgt] at e
      simp only [cond_false] at e
      split at e <;> first | (cases e; done) | skip
      all_goals
        cases he : eqA 10 P t (.agg xs) (.agg ys) with
        | none => simp [he] at e
        | some b =>
          simp only [he] at e
          cases e
          have hq := eqA_sound he hx hy w 10000 (by omega)
          cases hx with
          | agg cs ds h1 => cases hy with
            | agg cs2 ds2 h2 =>
              have hg := fun op => run_eqGuard_agg (P := P) w op t X Y ⟨ds⟩ ⟨ds2⟩ hgt
              simp only [Sem.run_bind, hg, Result.andThen_ok, run_eql_struct, run_neq_struct, hq]
              exact ⟨_, rfl, .bool _⟩
  · cases e
  · -- tops
    rename_i a
    cases a with
    | none => revert e; cases op <;> simp [topBin, kindOf]
    | some a =>
      obtain ⟨v', h1, h2⟩ := topBin_sound (P := P) e hx hy t w
      refine ⟨v', ?_, h2⟩
      have hg : (eqGuard op t X Y x' y').run P w = .ok () w := by
        rcases hx.chan with ⟨k', n, rfl, rfl⟩ | ⟨rfl, s, rfl⟩ | ⟨rfl, p, n, c, rfl⟩ | ⟨rfl, b, rfl⟩ <;> exact run_eqGuard (by simp) w
      simp only [Sem.run_bind, hg, Result.andThen_ok, h1]
  · -- tops
    rename_i a _ _
    cases a with
    | none => revert e; cases op <;> simp [topBin, kindOf] <;> (intro e; revert e; split <;> simp)
    | some a =>
      obtain ⟨v', h1, h2⟩ := topBin_sound (P := P) e hx hy t w
      refine ⟨v', ?_, h2⟩
      have hk : ∃ k, kindOf x = some k := by
        revert e
        cases hh : kindOf x with
        | some k => simp
        | none => cases op <;> simp [topBin, hh]
      obtain ⟨k, hk⟩ := hk
      obtain ⟨n, rfl⟩ := kindOf_rel hk hx
      have hg : (eqGuard op t X Y (.int k n) y').run P w = .ok () w := run_eqGuard (by simp) w
      simp only [Sem.run_bind, hg, Result.andThen_ok, h1]
  · -- equality

    rename_i hag hc1 hc2 hi hs haa
    split at e <;> first | (cases e; done) | skip
    all_goals
      cases he : eqA 10 P t x y with
      | none => simp [he] at e
      | some b =>
        simp only [he] at e
        cases e
        obtain ⟨s1, s2⟩ := eqA_shape he hx hy (fun k a k' b h1 h2 => hi _ _ _ _ h1 h2) (fun a b h1 h2 => hs _ _ h1 h2) (fun a h1 => hag _ h1)
        have hg : ∀ op, (eqGuard op t X Y x' y').run P w = .ok () w := fun op => by
          refine run_eqGuard ⟨?_, ?_⟩ w
          · rintro p rfl; simp [shapeOk] at s1
          · rintro rfl; simp [shapeOk] at s1
        have hq : (Op.equal t x' y').run P w = .ok b w := eqA_sound he hx hy w 10000 (by omega)
        first
          | (rw [binOp_eql_shape t _ _ s1 s2]; simp only [Sem.run_bind, hg, Result.andThen_ok, hq, Sem.run_pure]; exact ⟨_, rfl, .bool _⟩)
          | (rw [binOp_neq_shape t _ _ s1 s2]; simp only [Sem.run_bind, hg, Result.andThen_ok, hq, Sem.run_pure]; exact ⟨_, rfl, .bool _⟩)

theorem unA_sound {op : UnOp} {x x' v : Value} (e : unA op x = some v) (hx : VR ρ x x') (w : World) : ∃ v', (Op.unary op x').run P w = .ok v' w ∧ VR ρ v v' := by
  unfold unA at e
  split at e
  · cases hx; cases e; exact ⟨_, rfl, .int _ _⟩
  · cases hx
    rename_i k n
    simp only [intBin] at e
    cases e
    exact ⟨_, rfl, .int _ _⟩
  · cases hx; cases e; exact ⟨_, rfl, .bool _⟩
  · cases e
    rcases hx.chan with ⟨k, n, hk, _⟩ | ⟨hk, _⟩ | ⟨hk, _⟩ | ⟨_, b, rfl⟩
    · cases k <;> cases hk
    · cases hk
    · cases hk
    · exact ⟨_, rfl, .topB _⟩
  · cases e

theorem bytesOf_rel : ∀ {q : List Value} {l : List UInt8} {L : List Value}, bytesOf q = some l → VRs ρ q L → ∃ ns : List Int, L = ns.map (Value.int .u8) ∧ ns.map (fun n => UInt8.ofNat n.toNat) = l
  | [], l, L, e, hv => by
    simp [bytesOf] at e; cases hv; exact ⟨[], rfl, by simp [e]⟩
  | v :: q, l, L, e, hv => by
    unfold bytesOf at e
    split at e <;> try (cases e; done)
    · rename_i hh; cases hh
    · rename_i n q' hh
      cases hh
      cases hq : bytesOf q with
      | none => simp [hq] at e
      | some r =>
        simp [hq] at e
        cases hv with
        | cons _ v' _ l' hv1 hv2 =>
          cases hv1
          obtain ⟨ns, rfl, h2⟩ := bytesOf_rel hq hv2
          exact ⟨n :: ns, rfl, by simp [h2, ← e]⟩

theorem push_fold (ns : List Int) : ∀ (s : ByteArray), ns.foldl (fun r n => r.push (UInt8.ofNat n.toNat)) s = ⟨⟨s.data.toList ++ ns.map (fun n => UInt8.ofNat n.toNat)⟩⟩ := by
  induction ns with
  | nil => intro s; simp
  | cons n ns ih =>
    intro s
    simp only [List.foldl_cons, List.map_cons]
    rw [ih]
    apply ByteArray.ext
    apply Array.ext'
    simp [ByteArray.push]

theorem convA_sound (R : HR P B ρ h w.heap) {src dst : TypeId} {x x' v : Value} {fp : List Nat} (e : convA P h src dst x = some (v, fp)) (hx : VR ρ x x') (hsrc : (P.underlying src).isSome = true) :
    ∃ v', (convert src dst x').run P w = .ok v' w ∧ VR ρ v v' := by
  obtain ⟨ds, hds⟩ := Option.isSome_iff_exists.1 hsrc
  unfold convA at e
  split at e
  · cases hx
    split at e <;> cases e
    rename_i hu
    exact ⟨_, by simp [convert, run_underlying hds, run_underlying hu, Conv.intToInt], .int _ _⟩
  · rename_i a
    split at e <;> cases e
    rename_i k hk hu
    obtain ⟨n, rfl⟩ := kindOf_rel (x := .chan (some a)) hk hx
    exact ⟨_, by simp [convert, run_underlying hds, run_underlying hu, Conv.intToInt]; rfl, .topI _ _⟩
  · cases hx
    split at e <;> cases e
    rename_i h1 h2
    exact ⟨_, by simp [convert, run_underlying h1, run_underlying h2], .string _⟩
  · rename_i a n c
    split at e <;> try (cases e; done)
    rename_i el h1 h2
    cases h3 : P.underlying el with
    | none => simp [h3] at e
    | some k3 =>
      simp only [h3] at e
      split at e <;> try (cases e; done)
      rename_i hk3
      cases hk3
      split at e
      · cases e
        cases hx
        exact ⟨_, by simp [convert, run_underlying h1, run_underlying h2, run_underlying h3, Conv.bytesToString], .string _⟩
      · rename_i b o
        cases g : (h.get b).bind rowOf with
        | none => simp [g] at e
        | some cs =>
          simp only [g] at e
          cases hq : takeX n (cs.drop o) with
          | none => simp [hq] at e
          | some q =>
            simp only [hq] at e
            cases hbq : bytesOf q with
            | none => simp [hbq] at e
            | some l =>
              simp only [hbq] at e
              cases e
              have fin : ∀ (r p c' : Nat) (L : List Value), L.length = n → VRs ρ q L → (∀ (j : Nat) (v : Value), L[j]? = some v → w.cell? ⟨r, p + j, none⟩ = some v) →
                  (convert src dst (.slice (some ⟨r, p, none⟩) n c')).run P w = .ok (.string ⟨⟨l⟩⟩) w := by
                intro r p c' L hL hV hc
                obtain ⟨ns, rfl, hl⟩ := bytesOf_rel hbq hV
                have := run_loadCells (P := P) r p _ w hc
                rw [hL] at this
                have := run_bytesToString (P := P) w ⟨r, p, none⟩ n c' ns this
                simp only [convert, Sem.run_bind, run_underlying h1, run_underlying h2, run_underlying h3, Result.andThen_ok]
                rw [this, push_fold, hl]
                rfl
              obtain ⟨r, d, c', p, hb, hp, rfl⟩ := hx.rslice
              obtain ⟨L, hL, hV, hc⟩ := R.row g hb o n q hq
              rcases hp with rfl | ⟨rfl, rfl⟩
              · exact ⟨_, fin _ _ _ L hL hV hc, .string _⟩
              · exact ⟨_, fin _ _ _ L hL hV (fun j v hj => by have : j < L.length := (List.getElem?_eq_some_iff.1 hj).1; omega), .string _⟩
      · cases e
  · cases e

end Go.Sim

/- The abstract machine: operations that only yield a value, 3. -/
namespace Go.Sim
open Go.RowKit
set_option linter.unusedVariables false
set_option linter.unusedSimpArgs false
set_option linter.unusedSectionVars false
variable [Ev]

variable {P : Program} {B : Nat} {ρ : Map} {h : H} {w : World}

theorem natOf_rel {v v' : Value} {n : Nat} (e : natOf v = some n) (hv : VR ρ v v') : ∃ k, v' = .int k (n : Int) := by
  unfold natOf at e
  split at e
  · cases e; cases hv; exact ⟨_, rfl⟩
  · cases e

inductive VO (ρ : Map) : Option Value → Option Value → Prop
  | none : VO ρ none none
  | some (v v') (h : VR ρ v v') : VO ρ (some v) (some v')

theorem vo_map {E E' : Operand → Value} {x : Option Operand} (h : ∀ y, x = some y → VR ρ (E y) (E' y)) : VO ρ (x.map E) (x.map E') := by
  cases x with
  | none => exact .none
  | some y => exact .some _ _ (h y rfl)

theorem bound_some {v v' : Option Value} {d y n : Nat} (e : boundA v d y = some n) (hv : VO ρ v v') :
    (v' = none ∧ v = none ∧ n = d) ∨ (∃ k, v' = some (.int k (n : Int)) ∧ n ≤ y ∧ v.isSome = true) := by
  cases hv with
  | none => simp [boundA] at e; exact .inl ⟨rfl, rfl, e.symm⟩
  | some x x' hx =>
    simp only [boundA] at e
    cases hn : natOf x with
    | none => simp [hn] at e
    | some i =>
      simp only [hn] at e
      cases hb : Nat.ble i y <;> rw [hb] at e <;> simp only [cond_true, cond_false] at e
      · cases e
      cases e
      obtain ⟨k, rfl⟩ := natOf_rel hn hx
      exact .inr ⟨k, rfl, by simpa using hb, rfl⟩


theorem run_bound {k : IntKind} {n y : Nat} (hn : n ≤ y) (c : BoundsCode) (w : World) : (Instr.sliceBound (.int k (n : Int)) y c).run P w = .ok n w := by
  have : (0 : Int) ≤ (n : Int) ∧ (n : Int) ≤ (y : Int) := ⟨by omega, by omega⟩
  simp [Instr.sliceBound, asIntOf, this]

/-- the bounds, as the machine finds them -/
theorem run_bounds {lo hi mx lo' hi' mx' : Option Value} (isSlice : Bool) {len cap m hh l : Nat} (e : boundsA len cap lo hi mx = some (l, hh, m))
    (h1 : VO ρ lo lo') (h2 : VO ρ hi hi') (h3 : VO ρ mx mx') (w : World) :
    (Instr.sliceBounds isSlice len cap lo' hi' mx').run P w = .ok (l, hh, m) w ∧ l ≤ hh ∧ (len ≤ cap → hh ≤ m ∧ m ≤ cap) ∧ (mx = none → m = cap) := by
  unfold boundsA at e
  cases hb : mx.isSome && hi.isNone <;> rw [hb] at e <;> simp only [cond_true, cond_false] at e
  case true => cases e
  cases hm : boundA mx cap cap with
  | none => simp [hm] at e
  | some m0 =>
    simp only [hm] at e
    cases hh' : boundA hi len m0 with
    | none => simp [hh'] at e
    | some h0 =>
      simp only [hh'] at e
      cases hl : boundA lo 0 h0 with
      | none => simp [hl] at e
      | some l0 =>
        simp only [hl] at e
        cases e
        rcases bound_some hm h3 with ⟨rfl, rfl, rfl⟩ | ⟨k3, rfl, hm2, hm3⟩ <;> rcases bound_some hh' h2 with ⟨rfl, rfl, rfl⟩ | ⟨k2, rfl, hh2, hh3⟩ <;> rcases bound_some hl h1 with ⟨rfl, rfl, rfl⟩ | ⟨k1, rfl, hl2, hl3⟩ <;>
          first
          | (refine ⟨by simp [Instr.sliceBounds, run_bound, *], by omega, fun _ => ⟨by omega, by omega⟩, fun hx => by first | rfl | simp_all⟩; done)
          | (simp_all; done)

/-- the same with a greater capacity -/
theorem run_boundsU {lo hi lo' hi' : Option Value} (isSlice : Bool) {len kk cap m hh l : Nat} (e : boundsA len kk lo hi none = some (l, hh, m)) (hk : len ≤ kk) (hc : kk ≤ cap)
    (h1 : VO ρ lo lo') (h2 : VO ρ hi hi') (w : World) :
    (Instr.sliceBounds isSlice len cap lo' hi' none).run P w = .ok (l, hh, cap) w ∧ l ≤ hh ∧ hh ≤ kk := by
  unfold boundsA at e
  simp only [Option.isSome_none, Bool.false_and, cond_false, boundA] at e
  cases hh' : boundA hi len kk with
  | none => simp only [boundA] at hh'; rw [hh'] at e; cases e
  | some h0 =>
    have hh'' := hh'
    simp only [boundA] at hh''
    rw [hh''] at e
    simp only [] at e
    cases hl : boundA lo 0 h0 with
    | none => simp only [boundA] at hl; rw [hl] at e; cases e
    | some l0 =>
      have hl' := hl
      simp only [boundA] at hl'
      rw [hl'] at e
      simp only [] at e
      cases e
      clear hh'' hl'
      rcases bound_some hh' h2 with ⟨rfl, rfl, rfl⟩ | ⟨k2, rfl, hh2, hh3⟩ <;> rcases bound_some hl h1 with ⟨rfl, rfl, rfl⟩ | ⟨k1, rfl, hl2, hl3⟩
      · exact ⟨by simp [Instr.sliceBounds], by omega, by omega⟩
      · have r1 := fun c => run_bound (P := P) (k := k1) hl2 c w
        exact ⟨by simp [Instr.sliceBounds, r1], by omega, by omega⟩
      · have r2 := fun c => run_bound (P := P) (k := k2) (show hh ≤ cap by omega) c w
        exact ⟨by simp [Instr.sliceBounds, r2], by omega, by omega⟩
      · have r1 := fun c => run_bound (P := P) (k := k1) hl2 c w
        have r2 := fun c => run_bound (P := P) (k := k2) (show hh ≤ cap by omega) c w
        exact ⟨by simp [Instr.sliceBounds, r1, r2], by omega, by omega⟩

/-- with a bound of the room that is at most the length -/
theorem run_boundsX {lo hi mx lo' hi' mx' : Option Value} (isSlice : Bool) {len cap m hh l : Nat} (e : boundsA len len lo hi mx = some (l, hh, m)) (hc : len ≤ cap) (hx : mx.isSome = true)
    (h1 : VO ρ lo lo') (h2 : VO ρ hi hi') (h3 : VO ρ mx mx') (w : World) :
    (Instr.sliceBounds isSlice len cap lo' hi' mx').run P w = .ok (l, hh, m) w ∧ l ≤ hh ∧ hh ≤ m ∧ m ≤ len := by
  unfold boundsA at e
  cases hb : mx.isSome && hi.isNone <;> rw [hb] at e <;> simp only [cond_true, cond_false] at e
  case true => cases e
  cases hm : boundA mx len len with
  | none => simp [hm] at e
  | some m0 =>
    simp only [hm] at e
    cases hh' : boundA hi len m0 with
    | none => simp [hh'] at e
    | some h0 =>
      simp only [hh'] at e
      cases hl : boundA lo 0 h0 with
      | none => simp [hl] at e
      | some l0 =>
        simp only [hl] at e
        cases e
        rcases bound_some hm h3 with ⟨rfl, rfl, rfl⟩ | ⟨k3, rfl, hm2, hm3⟩
        · simp at hx
        rcases bound_some hh' h2 with ⟨rfl, rfl, rfl⟩ | ⟨k2, rfl, hh2, hh3⟩
        · simp_all
        have hmc : m ≤ cap := by omega
        rcases bound_some hl h1 with ⟨rfl, rfl, rfl⟩ | ⟨k1, rfl, hl2, hl3⟩ <;>
          (refine ⟨by simp [Instr.sliceBounds, run_bound, *], by omega, by omega, by omega⟩)

theorem mkS_rel {b o r d s l hh m : Nat} {v : Value} (e : mkS b o s l hh m = some v) (hb : ρ[b]? = some (some (r, d))) :
    VR ρ v (.slice (some (if m = l then (⟨r, d + o, none⟩ : Addr) else Addr.add ⟨r, d + o, none⟩ (l * s))) (hh - l) (m - l)) := by
  unfold mkS at e
  cases hne : isU (m - l) <;> rw [hne] at e <;> simp only [cond_true, cond_false] at e
  case true => cases e
  cases hq : Nat.beq m l <;> rw [hq] at e <;> simp only [cond_true, cond_false] at e <;> cases e
  · have : m ≠ l := by intro h; rw [h] at hq; simp at hq
    rw [if_neg this, Addr.add_lit, Nat.add_assoc]
    exact .slice _ _ _ _ _ _ hb hne
  · have : m = l := Nat.eq_of_beq_eq_true hq
    rw [if_pos this]
    exact .slice _ _ _ _ _ _ hb hne

theorem extract_bytes (s : ByteArray) (l hh : Nat) (hl : l ≤ hh) : s.extract l hh = ⟨⟨(s.data.toList.drop l).take (hh - l)⟩⟩ := by
  apply ByteArray.ext
  apply Array.ext'
  simp [ByteArray.data_extract, Array.toList_extract, List.extract]

theorem sliceA_sound {t : TypeId} {x x' v : Value} {lo hi mx lo' hi' mx' : Option Value} (e : sliceA P t x lo hi mx = some v) (hx : VR ρ x x')
    (h1 : VO ρ lo lo') (h2 : VO ρ hi hi') (h3 : VO ρ mx mx') (w : World) : ∃ v', (Instr.sliceAt t x' lo' hi' mx').run P w = .ok v' w ∧ VR ρ v v' := by
  unfold sliceA at e
  split at e
  · rename_i n el hu
    split at e <;> try (cases e; done)
    rename_i b o s hs
    cases hq : boundsA n n lo hi mx with
    | none => simp [hq] at e
    | some q =>
      obtain ⟨l, hh, m⟩ := q
      simp only [hq] at e
      cases hx with
      | ptr _ _ r d hb =>
        obtain ⟨k1, k2, k3, k4⟩ := run_bounds (P := P) false hq h1 h2 h3 w
        exact ⟨_, by simp [Instr.sliceAt, run_underlying hu, Instr.sureAddr, k1, sizeA_some hs], mkS_rel e hb⟩
  · rename_i hu
    split at e <;> try (cases e; done)
    rename_i s
    split at e <;> try (cases e; done)
    cases hq : boundsA s.size s.size lo hi none with
    | none => simp [hq] at e
    | some q =>
      obtain ⟨l, hh, m⟩ := q
      simp only [hq] at e
      cases e
      cases hx
      cases h3
      obtain ⟨k1, k2, k3, k4⟩ := run_bounds (P := P) false hq h1 h2 .none w
      exact ⟨_, by simp [Instr.sliceAt, Instr.slice, run_underlying hu, k1]; rfl, by rw [extract_bytes _ _ _ k2]; exact .string _⟩
  · rename_i el hu
    cases hs : sizeA P el with
    | none => simp [hs] at e
    | some s =>
      simp only [hs] at e
      split at e
      · cases hq : boundsA 0 0 lo hi mx with
        | none => simp [hq] at e
        | some q =>
          obtain ⟨l, hh, m⟩ := q
          simp only [hq] at e
          cases e
          cases hx
          obtain ⟨k1, k2, k3, k4⟩ := run_bounds (P := P) true hq h1 h2 h3 w
          have k3 := k3 (Nat.le_refl _)
          have : l = 0 := by omega
          have : hh = 0 := by omega
          have : m = 0 := by omega
          subst l; subst hh; subst m
          exact ⟨_, by simp [Instr.sliceAt, Instr.slice, run_underlying hu, k1, sizeA_some hs], .sliceN 0 0⟩
      · rename_i b o n c
        have run : ∀ (a : Addr) (c' l hh m : Nat), (Instr.sliceBounds true n c' lo' hi' mx').run P w = .ok (l, hh, m) w →
            (Instr.sliceAt t (.slice (some a) n c') lo' hi' mx').run P w = .ok (.slice (some (if m = l then a else a.add (l * s))) (hh - l) (m - l)) w := by
          intro a c' l hh m k1
          simp [Instr.sliceAt, Instr.slice, run_underlying hu, k1, sizeA_some hs]
          split <;> rfl
        cases hcu : isU c <;> rw [hcu] at e <;> simp only [cond_true, cond_false] at e
        · cases hq : boundsA n c lo hi mx with
          | none => simp [hq] at e
          | some q =>
            obtain ⟨l, hh, m⟩ := q
            simp only [hq] at e
            obtain ⟨r, d, hb, rfl⟩ := hx.eslice hcu
            obtain ⟨k1, k2, k3, k4⟩ := run_bounds (P := P) true hq h1 h2 h3 w
            exact ⟨_, run _ _ _ _ _ k1, mkS_rel e hb⟩
        · obtain ⟨r, d, c', p, hb, hn, hp, rfl⟩ := hx.uslice hcu
          skip
          skip
          · skip
            split at e
            · cases h3
              obtain ⟨hn, hlb1, hlb2⟩ := hn
              cases hq : boundsA n (lbC n c) lo hi none with
              | none => simp [hq] at e
              | some q =>
                obtain ⟨l, hh, m⟩ := q
                simp only [hq] at e
                cases e
                obtain ⟨k1, k2, k3⟩ := run_boundsU (P := P) true hq hlb1 hlb2 h1 h2 w
                refine ⟨_, run _ _ _ _ _ k1, ?_⟩
                by_cases hcl : c' = l
                · rw [if_pos hcl]
                  exact .sliceK _ _ _ _ _ _ _ _ hb (by omega) (by omega) (.inr ⟨by omega, by omega⟩)
                · rw [if_neg hcl, Addr.add_lit]
                  refine .sliceK _ _ _ _ _ _ _ _ hb (by omega) (by omega) ?_
                  rcases hp with rfl | ⟨h0, h00⟩
                  · exact .inl (by simp only [Nat.add_assoc])
                  · exact absurd (by omega) hcl
            · rename_i mv
              cases hq : boundsA n n lo hi (some mv) with
              | none => simp [hq] at e
              | some q =>
                obtain ⟨l, hh, m⟩ := q
                simp only [hq] at e
                obtain ⟨k1, k2, k3, k4⟩ := run_boundsX (P := P) true hq hn.1 rfl h1 h2 h3 w
                cases hn0 : Nat.beq n 0 <;> rw [hn0] at e <;> simp only [cond_true, cond_false] at e
                · have hn1 : n ≠ 0 := by intro h; rw [h] at hn0; simp at hn0
                  obtain rfl : p = d + o := by
                    rcases hp with h | ⟨h, _⟩
                    · exact h
                    · exact absurd h hn1
                  exact ⟨_, run _ _ _ _ _ k1, mkS_rel e hb⟩
                · have hn1 : n = 0 := Nat.eq_of_beq_eq_true hn0
                  subst hn1
                  cases e
                  have : l = 0 := by omega
                  have : hh = 0 := by omega
                  have : m = 0 := by omega
                  subst l; subst hh; subst m
                  exact ⟨_, run _ _ _ _ _ k1, by rw [if_pos rfl]; exact .sliceU _ _ _ _ _ _ _ hb (by omega) (.inr ⟨rfl, rfl⟩)⟩
      · cases e
  · rename_i arr hu
    split at e <;> try (cases e; done)
    rename_i n el hu2
    split at e <;> try (cases e; done)
    rename_i b o s hs
    split at e <;> try (cases e; done)
    cases h3
    cases hq : boundsA n n lo hi none with
    | none => simp [hq] at e
    | some q =>
      obtain ⟨l, hh, m⟩ := q
      simp only [hq] at e
      cases hx with
      | ptr _ _ r d hb =>
        obtain ⟨k1, k2, k3, k4⟩ := run_bounds (P := P) false hq h1 h2 .none w
        exact ⟨_, by simp [Instr.sliceAt, Instr.slice, run_underlying hu, run_underlying hu2, asAddr, k1, sizeA_some hs], mkS_rel e hb⟩
  · cases e

end Go.Sim

/- The abstract machine: operations that only yield a value, 4. -/
namespace Go.Sim
open Go.RowKit
set_option linter.unusedVariables false
set_option linter.unusedSimpArgs false
set_option linter.unusedSectionVars false
variable [Ev]

variable {P : Program} {B : Nat} {ρ : Map} {h : H} {w : World}

theorem VRs.set {l l' : List Value} (hl : VRs ρ l l') (i : Nat) {v v' : Value} (hv : VR ρ v v') : VRs ρ (l.set i v) (l'.set i v') := by
  refine VRs.of_get _ _ (by simp [hl.length]) ?_
  intro j u u' h1 h2
  rw [List.getElem?_set] at h1 h2
  split at h1
  · rename_i e
    rw [if_pos e] at h2
    split at h1
    · split at h2 <;> simp_all
    · cases h1
  · rename_i e
    rw [if_neg e] at h2
    obtain ⟨x, k1, k2⟩ := hl.get j u h1
    rw [h2] at k1; cases k1; exact k2

theorem cells_rel {v v' : Value} (hv : VR ρ v v') (hb : notBad v = true) : VRs ρ v.cells.toList v'.cells.toList := by
  have one : ∀ {x x' : Value}, VR ρ x x' → VRs ρ [x] [x'] := fun h => .cons _ _ _ _ h .nil
  cases hv <;> simp only [notBad] at hb <;> first | (cases hb; done) | skip
  case agg cs ds h => exact h
  case top h =>
    cases v' <;> simp [flat] at h <;> exact one (.top _ rfl)
  case opq i h =>
    have : (Ev.op i).cells.toList = [Ev.op i] := by
      cases hq : Ev.op i <;> rw [hq] at h <;> first | (simp [flat] at h; done) | rfl
    rw [this]
    exact one (.opq i h)
  all_goals exact one (by constructor <;> assumption)

theorem foldl_set (off : Nat) : ∀ (l : List (Value × Nat)) (cs : Array Value), (l.foldl (fun cs (c, j) => cs.setIfInBounds (off + j) c) cs).toList = l.foldl (fun cs p => cs.set (off + p.2) p.1) cs.toList
  | [], cs => rfl
  | p :: l, cs => by
    simp only [List.foldl_cons]
    rw [foldl_set off l]
    simp

theorem zip_rel {a b : List Value} (h : VRs ρ a b) (off : Nat) : ∀ (k : Nat) {cs ds : List Value}, VRs ρ cs ds →
    VRs ρ ((a.zipIdx k).foldl (fun cs p => cs.set (off + p.2) p.1) cs) ((b.zipIdx k).foldl (fun cs p => cs.set (off + p.2) p.1) ds) := by
  induction a generalizing b with
  | nil => intro k cs ds hc; cases h; simpa using hc
  | cons x a ih =>
    intro k cs ds hc
    cases h with
    | cons _ x' _ b' hx hl =>
      simp only [List.zipIdx_cons, List.foldl_cons]
      exact ih hl (k + 1) (hc.set _ hx)

inductive PR (ρ : Map) : List (Nat × Value) → List (Nat × Value) → Prop
  | nil : PR ρ [] []
  | cons (i v v' l l') (h : VR ρ v v') (h' : PR ρ l l') : PR ρ ((i, v) :: l) ((i, v') :: l')

theorem PR.map {E E' : Operand → Value} : ∀ (l : List (Nat × Operand)), (∀ p ∈ l, VR ρ (E p.2) (E' p.2)) → PR ρ (l.map fun p => (p.1, E p.2)) (l.map fun p => (p.1, E' p.2))
  | [], _ => .nil
  | p :: l, h => .cons _ _ _ _ _ (h p (by simp)) (PR.map l fun q hq => h q (by simp [hq]))

theorem fill_rel {place : Nat → Option (Nat × Nat)} : ∀ {l l' : List (Nat × Value)}, PR ρ l l' → (l.all fun p => notBad p.2) = true → ∀ {cs ds r : Array Value}, VRs ρ cs.toList ds.toList → Instr.fill place cs l = some r →
    ∃ r', Instr.fill place ds l' = some r' ∧ VRs ρ r.toList r'.toList
  | _, _, .nil, _, cs, ds, r, hc, e => by simp [Instr.fill] at e; exact ⟨ds, by simp [Instr.fill], by rw [← e]; exact hc⟩
  | _, _, .cons i v v' l l' hv hl, hb, cs, ds, r, hc, e => by
    simp only [List.all_cons, Bool.and_eq_true] at hb
    simp only [Instr.fill] at e ⊢
    cases hp : place i with
    | none => simp [hp] at e
    | some p =>
      obtain ⟨off, size⟩ := p
      simp only [hp] at e ⊢
      have hcv := cells_rel hv hb.1
      have h1 : v.cells.size = v'.cells.size := by simpa using hcv.length
      have h2 : cs.size = ds.size := by simpa using hc.length
      rw [← h1, ← h2]
      split at e
      · cases e
      · rename_i hn
        rw [if_neg hn]
        refine fill_rel hl (by simpa using hb.2) ?_ e
        rw [← Array.foldl_toList, ← Array.foldl_toList, foldl_set, foldl_set]
        simp only [Array.toList_zipIdx]
        exact zip_rel hcv off 0 hc

theorem buildA_sound {t : TypeId} {l l' : List (Nat × Value)} {v : Value} (e : buildA P t l = some v) (hl : PR ρ l l') (w : World) : ∃ v', (Instr.build t ⟨l'⟩).run P w = .ok v' w ∧ VR ρ v v' := by
  unfold buildA at e
  cases hb : l.all fun p => notBad p.2 <;> rw [hb] at e <;> simp only [cond_true, cond_false] at e
  case false => cases e
  have key : ∃ cs cs' : Array Value, v = .agg cs ∧ P.built t l' = some cs' ∧ VRs ρ cs.toList cs'.toList := by
    unfold Program.built
    split at e <;> try (cases e; done)
    all_goals
      rename_i h1 h2
      simp only [h1, h2]
      split at e <;> try (cases e; done)
      rename_i z q h3 h4
      simp only [h3, h4]
      cases hz : notBad (constOf z) <;> rw [hz] at e <;> simp only [cond_true, cond_false] at e <;> try (cases e; done)
      split at e <;> try (cases e; done)
      rename_i cs hf
      cases e
      obtain ⟨r', k1, k2⟩ := fill_rel hl hb (cells_rel (constOf_rel ρ z) hz) hf
      exact ⟨cs, r', rfl, k1, k2⟩
  obtain ⟨cs, cs', rfl, h2, h3⟩ := key
  refine ⟨.agg cs', run_build w t ⟨l'⟩ cs' h2, ?_⟩
  obtain ⟨cs⟩ := cs
  obtain ⟨cs'⟩ := cs'
  exact .agg _ _ h3

theorem map_rel {E E' : Operand → Value} : ∀ (l : List Operand), (∀ x ∈ l, VR ρ (E x) (E' x)) → VRs ρ (l.map E) (l.map E')
  | [], _ => .nil
  | x :: l, h => .cons _ _ _ _ (h x (by simp)) (map_rel l fun y hy => h y (by simp [hy]))

end Go.Sim

/- The abstract machine: maps. -/
namespace Go.Sim
open Go.RowKit
set_option linter.unusedVariables false
set_option linter.unusedSimpArgs false
set_option linter.unusedSectionVars false
variable [Ev]

variable {P : Program} {B : Nat} {ρ : Map} {h : H} {w : World}

theorem keyT_spec {kt : TypeId} {k : Value} (h : keyT P kt k = true) : ∃ d, P.underlying kt = some d ∧ okC k = true ∧ (∀ k', Instr.sameNow d k k' = keyEq k k') ∧
    (∀ (e : Bool) (n : Nat) (w : World), (Instr.checkKey e (n + 1) kt k).run P w = .ok () w) := by
  unfold keyT at h
  split at h
  · rename_i k0 a b hu
    refine ⟨_, hu, rfl, ?_, ?_⟩
    · intro k'
      cases k' <;> try rfl
      rename_i j c
      simp only [Instr.sameNow, keyEq]
      by_cases e : a = j
      · subst e; simp
      · have : (a == j) = false := by simpa using e
        rw [this, if_neg e]; rfl
    · intro e n w
      simp [Instr.checkKey, run_underlying hu]
  · rename_i s hu
    refine ⟨_, hu, rfl, ?_, ?_⟩
    · intro k'
      cases k' <;> try rfl
      simp only [Instr.sameNow, keyEq, strEq_beq]
    · intro e n w
      simp [Instr.checkKey, run_underlying hu]
  · rename_i b hu
    refine ⟨_, hu, rfl, ?_, ?_⟩
    · intro k'
      cases k' <;> rfl
    · intro e n w
      simp [Instr.checkKey, run_underlying hu]
  · cases h

theorem mapT_some {t kt et : TypeId} (h : mapT P t = some (kt, et)) : P.underlying t = some (.map kt et) := by
  unfold mapT at h
  split at h
  · rename_i hu; simp at h; rw [hu]; obtain ⟨rfl, rfl⟩ := h; rfl
  · cases h

theorem okC_rel {v v' : Value} (hv : VR ρ v v') (h : okC v = true) : v' = v := by
  cases hv <;> simp [okC] at h <;> first | rfl | (simp [okC] at *; done)
theorem VRs.okC : ∀ {l l' : List Value}, VRs ρ l l' → l.all okC = true → l' = l
  | _, _, .nil, _ => rfl
  | _, _, .cons v v' l l' h h', hh => by
    rw [List.all_cons, Bool.and_eq_true] at hh
    rw [okC_rel h hh.1, VRs.okC h' hh.2]
theorem okK_rel {v v' : Value} (hv : VR ρ v v') (h : okK v = true) : v' = v := by
  by_cases ha : ∃ cs, v = .agg cs
  · obtain ⟨cs, rfl⟩ := ha
    cases hv with
    | agg cs ds hh =>
      have h' : cs.all Sim.okC = true := h
      rw [VRs.okC hh h']
  · have : okC v = true := by
      unfold okK at h
      split at h
      · rename_i cs; exact absurd ⟨_, rfl⟩ ha
      · exact h
    exact okC_rel hv this
theorem VRs.self : ∀ {l : List Value}, l.all Sim.okC = true → VRs ρ l l
  | l, h => VRs.const ρ l h
theorem okK_self {v : Value} (h : okK v = true) : VR ρ v v := by
  by_cases ha : ∃ cs, v = .agg cs
  · obtain ⟨⟨cs⟩, rfl⟩ := ha
    exact .agg _ _ (VRs.const ρ cs h)
  · have : okC v = true := by
      unfold okK at h
      split at h
      · rename_i cs; exact absurd ⟨_, rfl⟩ ha
      · exact h
    exact .const ρ v this

theorem okC_okK {v : Value} (h : okC v = true) : okK v = true := by
  cases v <;> first | exact h | (simp [okC] at h; done)

/-- how keys are compared, in the machine -/
structure KeyS (P : Program) (kt : TypeId) (k : Value) (eq : Value → Value → Option Bool) : Prop where
  ok : okK k = true
  check : ∀ (e : Bool) (w : World), (Instr.checkKey e 10000 kt k).run P w = .ok () w
  find : ∀ (es' : List MapEntry) (w : World) (r : Option (Nat × Value)) (i : Nat), (∀ e ∈ es', okK e.key = true) → findE eq k (es'.map fun e => (e.key, e.val, e.born)) 0 = some r → (Instr.findKey kt k es').run P w = .ok r w

theorem findNow_of {d : TypeDesc} {k : Value} (hs : ∀ k', Instr.sameNow d k k' = keyEq k k') : ∀ (es' : List MapEntry) (i : Nat) (r : Option (Nat × Value)), findE keyEq k (es'.map fun e => (e.key, e.val, e.born)) i = some r → Instr.findNow d k es' i = some r
  | [], i, r, e => by simpa [findE, Instr.findNow] using e
  | e :: es, i, r, h => by
    simp only [List.map_cons, findE] at h
    simp only [Instr.findNow, hs]
    cases hq : keyEq k e.key with
    | none => simp [hq] at h
    | some q =>
      cases q with
      | true => simp only [hq] at h ⊢; exact h
      | false => simp only [hq] at h ⊢; exact findNow_of hs es (i + 1) r h

theorem findAsking_of {kt : TypeId} {k : Value} {w : World} {eq : Value → Value → Option Bool} (hk : ∀ k' b, okK k' = true → eq k k' = some b → (Op.equal kt k k').run P w = .ok b w) : ∀ (es' : List MapEntry) (i : Nat) (r : Option (Nat × Value)), (∀ e ∈ es', okK e.key = true) →
    findE eq k (es'.map fun e => (e.key, e.val, e.born)) i = some r → (Instr.findAsking kt k es' i).run P w = .ok r w
  | [], i, r, _, e => by
    simp [findE] at e
    subst e
    simp [Instr.findAsking]
  | e :: es, i, r, ho, h => by
    simp only [List.map_cons, findE] at h
    unfold Instr.findAsking
    cases hq : eq k e.key with
    | none => simp [hq] at h
    | some q =>
      have := hk e.key q (ho e (by simp)) hq
      simp only [Sem.run_bind, this, Result.andThen_ok]
      cases q with
      | true =>
        simp only [hq] at h
        cases h
        simp
      | false =>
        simp only [hq] at h
        simp only [Bool.false_eq_true, if_false]
        exact findAsking_of hk es (i + 1) r (fun e he => ho e (by simp [he])) h

theorem check_fields {cs : Array Value} (hc : cs.toList.all Sim.okC = true) (emp : Bool) (n : Nat) (w : World) : ∀ (fs : List Field), fs.all (plainF P cs) = true →
    (forIn fs PUnit.unit (fun f r => do if f.name ≠ "_" then do { Instr.checkKey emp (n + 1) f.type (← part f.type cs f.offset); pure (ForInStep.yield PUnit.unit) } else pure (ForInStep.yield PUnit.unit)) : Sem PUnit).run P w = .ok PUnit.unit w
  | [], _ => by simp
  | f :: fs, h => by
    rw [List.all_cons, Bool.and_eq_true] at h
    have ih := check_fields hc emp n w fs h.2
    have hp := h.1
    unfold plainF at hp
    have one : ∃ v, (part f.type cs f.offset).run P w = .ok v w ∧ (Instr.checkKey emp (n + 1) f.type v).run P w = .ok () w := by
      have sound : ∀ v, partA P f.type cs f.offset = some v → Sim.okC v = true → (part f.type cs f.offset).run P w = .ok v w := by
        intro v hv ho
        obtain ⟨l⟩ := cs
        obtain ⟨v', h1, h2⟩ := partA_sound (ρ := []) hv (VRs.const [] l hc) w
        rw [okC_rel h2 ho] at h1
        exact h1
      split at hp <;> try (cases hp; done)
      · rename_i v k hv hu
        refine ⟨v, sound v hv hp, ?_⟩
        cases v <;> simp [Sim.okC] at hp <;> simp [Instr.checkKey, run_underlying hu]
      all_goals
        rename_i v hv hu
        refine ⟨v, sound v hv hp, ?_⟩
        cases v <;> simp [Sim.okC] at hp <;> simp [Instr.checkKey, run_underlying hu]
    obtain ⟨v, h1, h2⟩ := one
    simp only [List.forIn_cons]
    by_cases hn : f.name ≠ "_"
    · simp only [if_pos hn, Sem.run_bind, h1, h2, Result.andThen_ok, Sem.run_pure]
      exact ih
    · simp only [if_neg hn, Sem.run_bind, Result.andThen_ok, Sem.run_pure]
      exact ih

theorem check_items {cs : Array Value} (hc : cs.toList.all Sim.okC = true) (emp : Bool) (n : Nat) (w : World) {e : TypeId} {i : TypeInfo} (hi : P.info? e = some i) : ∀ (is : List Nat), is.all (plainI P cs e i.size) = true →
    (forIn is PUnit.unit (fun j r => do { Instr.checkKey emp (n + 1) e (← part e cs (j * (← sizeOf e))); pure (ForInStep.yield PUnit.unit) }) : Sem PUnit).run P w = .ok PUnit.unit w
  | [], _ => by simp
  | j :: is, h => by
    rw [List.all_cons, Bool.and_eq_true] at h
    have ih := check_items hc emp n w hi is h.2
    have hp := h.1
    unfold plainI at hp
    have hc2 : P.cellsOf e = i.size := by unfold Program.cellsOf; rw [hi]; rfl
    have one : ∃ v, (part e cs (j * i.size)).run P w = .ok v w ∧ (Instr.checkKey emp (n + 1) e v).run P w = .ok () w := by
      have sound : ∀ v, partA P e cs (j * i.size) = some v → Sim.okC v = true → (part e cs (j * i.size)).run P w = .ok v w := by
        intro v hv ho
        obtain ⟨l⟩ := cs
        obtain ⟨v', h1, h2⟩ := partA_sound (ρ := []) hv (VRs.const [] l hc) w
        rw [okC_rel h2 ho] at h1
        exact h1
      split at hp <;> try (cases hp; done)
      · rename_i v k hv hu
        refine ⟨v, sound v hv hp, ?_⟩
        cases v <;> simp [Sim.okC] at hp <;> simp [Instr.checkKey, run_underlying hu]
      all_goals
        rename_i v hv hu
        refine ⟨v, sound v hv hp, ?_⟩
        cases v <;> simp [Sim.okC] at hp <;> simp [Instr.checkKey, run_underlying hu]
    obtain ⟨v, h1, h2⟩ := one
    simp only [List.forIn_cons, Sem.run_bind, run_sizeOf w hi, hc2, Result.andThen_ok, h1, h2, Sem.run_pure]
    exact ih

theorem findNow_array {n : Nat} {e : TypeId} {k : Value} : ∀ (es : List MapEntry), Instr.findNow (.array n e) k es 0 = if es.isEmpty then some none else none
  | [] => rfl
  | e0 :: es => by
    simp only [Instr.findNow]
    have : Instr.sameNow (.array n e) k e0.key = none := by cases k <;> rfl
    rw [this]; rfl

theorem findNow_struct {fs : Array Field} {k : Value} : ∀ (es : List MapEntry), Instr.findNow (.struct fs) k es 0 = if es.isEmpty then some none else none
  | [] => rfl
  | e :: es => by
    simp only [Instr.findNow]
    have : Instr.sameNow (.struct fs) k e.key = none := by cases k <;> rfl
    rw [this]; rfl

theorem keyK_spec {kt : TypeId} {k : Value} {eq : Value → Value → Option Bool} (h : keyK P kt k = some eq) : KeyS P kt k eq := by
  unfold keyK at h
  cases hk : keyT P kt k with
  | true =>
    rw [hk] at h
    cases h
    obtain ⟨d, hu, hok, hs, hc⟩ := keyT_spec hk
    refine ⟨okC_okK hok, fun e w => hc e 9999 w, fun es' w r i ho he => ?_⟩
    have := findNow_of hs es' 0 r he
    simp [Instr.findKey, run_underlying hu, this]
  | false =>
    rw [hk] at h
    simp only [cond_false] at h
    cases hk2 : keyS P kt k with
    | false => rw [hk2] at h; cases h
    | true =>
      rw [hk2] at h
      cases h
      unfold keyS at hk2
      split at hk2 <;> try (cases hk2; done)
      · rename_i fs cs hu
        rw [Bool.and_eq_true] at hk2
        have hokk : okK (.agg cs) = true := hk2.1
        refine ⟨hokk, fun e w => ?_, fun es' w r i ho he => ?_⟩
        · unfold Instr.checkKey
          simp only [Sem.run_bind, run_underlying hu, Result.andThen_ok]
          rw [← Array.forIn_toList]
          have := check_fields (P := P) hk2.1 e 9998 w fs.toList hk2.2
          erw [this]
          rfl
        · cases es' with
          | nil =>
            simp [findE] at he
            subst he
            simp [Instr.findKey, run_underlying hu, findNow_struct]
          | cons e0 es0 =>
            have := findAsking_of (P := P) (kt := kt) (k := .agg cs) (w := w) (eq := eqA 10 P kt) (fun k' b hk' hb => eqA_sound (ρ := []) hb (okK_self hokk) (okK_self hk') w 10000 (by omega)) (e0 :: es0) 0 r ho he
            simp [Instr.findKey, run_underlying hu, findNow_struct, this]
      · rename_i len el cs hu
        cases hi : P.info? el with
        | none => simp [hi] at hk2
        | some i =>
          simp only [hi] at hk2
          rw [Bool.and_eq_true] at hk2
          have hokk : okK (.agg cs) = true := hk2.1
          refine ⟨hokk, fun e w => ?_, fun es' w r i ho he => ?_⟩
          · unfold Instr.checkKey
            simp only [Sem.run_bind, run_underlying hu, Result.andThen_ok]
            simp only [Std.Legacy.Range.forIn_eq_forIn_range', Std.Legacy.Range.size, Nat.sub_zero, Nat.add_one_sub_one, Nat.div_one]
            rw [← List.range_eq_range']
            have := check_items (P := P) hk2.1 e 9998 w hi (List.range len) hk2.2
            erw [this]
            rfl
          · cases es' with
            | nil =>
              simp [findE] at he
              subst he
              simp [Instr.findKey, run_underlying hu, findNow_array]
            | cons e0 es0 =>
              have := findAsking_of (P := P) (kt := kt) (k := .agg cs) (w := w) (eq := eqA 10 P kt) (fun k' b hk' hb => eqA_sound (ρ := []) hb (okK_self hokk) (okK_self hk') w 10000 (by omega)) (e0 :: es0) 0 r ho he
              simp [Instr.findKey, run_underlying hu, findNow_array, this]

/-- what is found -/
inductive FR1 (ρ : Map) (es : List (Value × Value × Nat)) (es' : List MapEntry) : Option (Nat × Value) → Option (Nat × Value) → Prop
  | none : FR1 ρ es es' none none
  | some (i v v') (hv : VR ρ v v') (hi : ∃ e, es'[i]? = some e ∧ e.key = keyAt es i) : FR1 ρ es es' (some (i, v)) (some (i, v'))

theorem keyAt_app : ∀ (pre es : List (Value × Value × Nat)) (k v : Value) (b : Nat), keyAt (pre ++ (k, v, b) :: es) pre.length = k
  | [], es, k, v, b => rfl
  | p :: pre, es, k, v, b => keyAt_app pre es k v b

theorem findE_rel {eq : Value → Value → Option Bool} {k : Value} : ∀ {es : List (Value × Value × Nat)} {es' : List MapEntry} (pre : List (Value × Value × Nat)) (pre' : List MapEntry), pre.length = pre'.length → LsR (ER ρ) es es' → ∀ {r : Option (Nat × Value)}, findE eq k es pre.length = some r →
    ∃ r', findE eq k (es'.map fun e => (e.key, e.val, e.born)) pre.length = some r' ∧ FR1 ρ (pre ++ es) (pre' ++ es') r r'
  | [], _, pre, pre', hl0, .nil, r, e => by
    simp [findE] at e
    subst e
    exact ⟨none, by simp [findE], .none⟩
  | _, _, pre, pre', hl0, .cons _ _ es es' (.mk k0 v v' b hk hv) hl, r, e => by
    simp only [findE] at e
    simp only [List.map_cons, findE]
    cases hq : eq k k0 with
    | none => simp [hq] at e
    | some q =>
      cases q with
      | true =>
        simp only [hq] at e ⊢
        cases e
        refine ⟨_, rfl, .some _ _ _ hv ⟨⟨k0, v', b⟩, ?_, ?_⟩⟩
        · rw [hl0]; simp
        · rw [keyAt_app]
      | false =>
        simp only [hq] at e ⊢
        obtain ⟨r', h1, h2⟩ := findE_rel (eq := eq) (k := k) (pre ++ [(k0, v, b)]) (pre' ++ [⟨k0, v', b⟩]) (by simp [hl0]) hl (r := r) (by simpa using e)
        exact ⟨r', by simpa using h1, by simpa using h2⟩

theorem ER_keys : ∀ {es : List (Value × Value × Nat)} {es' : List MapEntry}, LsR (ER ρ) es es' → ∀ e ∈ es', okK e.key = true
  | _, _, .nil, e, he => by cases he
  | _, _, .cons _ _ es es' (.mk k0 v v' b hk hv) hl, e, he => by
    rcases List.mem_cons.1 he with rfl | he
    · exact hk
    · exact ER_keys hl e he

theorem find_sound {kt : TypeId} {k k' : Value} {eq : Value → Value → Option Bool} (h : keyK P kt k = some eq) (hk : VR ρ k k') {es : List (Value × Value × Nat)} {es' : List MapEntry} (hes : LsR (ER ρ) es es') {r : Option (Nat × Value)} (e : findE eq k es 0 = some r) (w : World) :
    k' = k ∧ okK k = true ∧ (∀ b, (Instr.checkKey b 10000 kt k').run P w = .ok () w) ∧ ∃ r', (Instr.findKey kt k' es').run P w = .ok r' w ∧ FR1 ρ es es' r r' := by
  have K := keyK_spec h
  have := okK_rel hk K.ok
  subst this
  obtain ⟨r', h1, h2⟩ := findE_rel (ρ := ρ) [] [] rfl hes e
  exact ⟨rfl, K.ok, fun b => K.check b w, r', K.find es' w r' 0 (ER_keys hes) h1, h2⟩

theorem lookE_rel {kt et : TypeId} {es : List (Value × Value × Nat)} {es' : List MapEntry} {k k' : Value} {ok : Bool} {v : Value} (e : lookE P kt et es k ok = some v) (hes : LsR (ER ρ) es es') (hk : VR ρ k k') (w : World) :
    (∀ b, (Instr.checkKey b 10000 kt k').run P w = .ok () w) ∧ ((∃ i v0, (Instr.findKey kt k' es').run P w = .ok (some (i, v0)) w ∧ VR ρ v (if ok then .tuple #[v0, .bool true] else v0)) ∨
      ∃ z, (Instr.findKey kt k' es').run P w = .ok none w ∧ (zeroValue et).run P w = .ok z w ∧ VR ρ v (if ok then .tuple #[z, .bool false] else z)) := by
  unfold lookE at e
  cases hkt : keyK P kt k with
  | none => simp [hkt] at e
  | some eq =>
    simp only [hkt] at e
    cases hf : findE eq k es 0 with
    | none => simp [hf] at e
    | some r =>
      obtain ⟨rfl, hok, hc, r', hrun, h2⟩ := find_sound hkt hk hes hf w
      refine ⟨hc, ?_⟩
      simp only [hf] at e
      cases h2 with
      | none =>
        right
        simp only at e
        cases hz : (P.info? et).bind (·.zero) with
        | none => simp [hz] at e
        | some z =>
          simp only [hz] at e
          cases e
          have hzr := constOf_rel ρ z
          refine ⟨z, hrun, zero_some hz w, ?_⟩
          cases ok with
          | true => exact .tuple _ _ (.cons _ _ _ _ hzr (.cons _ _ _ _ (.bool _) .nil))
          | false => exact hzr
      | some i v0 v0' hv hi =>
        left
        simp only at e
        cases e
        refine ⟨i, v0', hrun, ?_⟩
        cases ok with
        | true => exact .tuple _ _ (.cons _ _ _ _ hv (.cons _ _ _ _ (.bool _) .nil))
        | false => exact hv

theorem HR.entries (R : HR P B ρ h w.heap) {b : Nat} {es : List (Value × Value × Nat)} {c : Nat} (g : (h.get b).bind entries = some (es, c)) {r : Nat} (hb : ρ[b]? = some (some (r, 0))) :
    h.get b = some (.map es c) ∧ ∃ es', w.heap[r]? = some (.map ⟨es'⟩ c) ∧ LsR (ER ρ) es es' := by
  cases hg : h.get b with
  | none => simp [hg] at g
  | some o =>
    rw [hg] at g
    cases o <;> simp [Sim.entries] at g
    obtain ⟨rfl, rfl⟩ := g
    refine ⟨rfl, ?_⟩
    have hob := R.obj b _ r 0 hg hb
    generalize w.heap[r]? = x at hob
    cases hob with
    | map es es' c hh => exact ⟨es', rfl, hh⟩

theorem lookA_sound (R : HR P B ρ h w.heap) {t : TypeId} {x x' k k' v : Value} {ok : Bool} {fp : List Nat} (e : lookA P h t x k ok = some (v, fp)) (hx : VR ρ x x') (hk : VR ρ k k') : ∃ v', (Instr.lookup t x' k' ok).run P w = .ok v' w ∧ VR ρ v v' := by
  unfold lookA at e
  cases hm : mapT P t with
  | none => simp [hm] at e
  | some p =>
    obtain ⟨kt, et⟩ := p
    have hu := mapT_some hm
    simp only [hm] at e
    split at e <;> try (cases e; done)
    · split at e <;> cases e
      rename_i hl
      cases hx
      obtain ⟨hc, ⟨i, v0, h1, h2⟩ | ⟨z, h1, h3, h2⟩⟩ := lookE_rel hl .nil hk w
      · refine ⟨_, ?_, h2⟩
        simp [Instr.lookup, run_underlying hu, hc, h1]
      · refine ⟨_, ?_, h2⟩
        simp [Instr.lookup, run_underlying hu, hc, h1, h3]
    · rename_i b
      split at e <;> try (cases e; done)
      rename_i es c hg
      split at e <;> cases e
      rename_i hl
      cases hx with
      | map _ r hb =>
        obtain ⟨_, es', h3, h4⟩ := R.entries hg hb
        obtain ⟨hc, ⟨i, v0, h1, h2⟩ | ⟨z, h1, h5, h2⟩⟩ := lookE_rel hl h4 hk w
        · refine ⟨_, ?_, h2⟩
          simp [Instr.lookup, run_underlying hu, getObj, Sem.run, h3, hc, h1]
        · refine ⟨_, ?_, h2⟩
          simp [Instr.lookup, run_underlying hu, getObj, Sem.run, h3, hc, h1, h5]

theorem mlenA_sound (R : HR P B ρ h w.heap) {b : Builtin} {ts : Array TypeId} {ty : TypeId} {cs : Array Bool} {xs xs' : List Value} {v : Value} {fp : List Nat} (e : mlenA P h b ts.toList xs = some (v, fp)) (hx : VRs ρ xs xs') :
    ∃ v', (builtin b ts ty cs ⟨xs'⟩).run P w = .ok (.value v') w ∧ VR ρ v v' := by
  unfold mlenA at e
  split at e <;> try (cases e; done)
  rename_i t x ht
  obtain ⟨ts⟩ := ts
  dsimp only at ht
  subst ht
  cases hx with
  | cons _ x' _ l' hx hl =>
    cases hl
    cases hm : mapT P t with
    | none => simp [hm] at e
    | some p =>
      obtain ⟨kt, et⟩ := p
      have hu := mapT_some hm
      simp only [hm] at e
      split at e <;> try (cases e; done)
      · cases e
        cases hx
        exact ⟨_, by simp [builtin, Builtin.len_, run_underlying hu, goInt], .int _ _⟩
      · rename_i b
        split at e <;> cases e
        rename_i es c hg
        cases hx with
        | map _ r hb =>
          obtain ⟨_, es', h3, h4⟩ := R.entries hg hb
          have hlen : ∀ {a : List (Value × Value × Nat)} {b : List MapEntry}, LsR (ER ρ) a b → a.length = b.length := by
            intro a b h
            induction h with
            | nil => rfl
            | cons _ _ _ _ _ _ ih => simp [ih]
          refine ⟨.int .i64 es'.length, by simp [builtin, Builtin.len_, run_underlying hu, goInt, getObj, Sem.run, h3], ?_⟩
          rw [← hlen h4]
          exact .int _ _
end Go.Sim

/- The abstract machine: operations that only yield a value, whole. -/
namespace Go.Sim
open Go.RowKit
set_option linter.unusedVariables false
set_option linter.unusedSimpArgs false
set_option linter.unusedSectionVars false
variable [Ev]

variable {P : Program} {B : Nat} {ρ : Map} {h : H} {w : World}

theorem arr_map (E : Operand → Value) (a : Array Operand) : a.map E = ⟨a.toList.map E⟩ := by
  apply Array.ext'; simp

theorem byte_get (s : ByteArray) (i : Nat) : s[i]? = s.data.toList[i]? := by
  rw [Array.getElem?_toList]
  rfl

theorem assertA_sound {t xt : TypeId} {ok : Bool} {x x' v : Value} (e : assertA P t ok x = some v) (hx : VR ρ x x') (w : World) :
    ∃ v', (Instr.typeAssert x' xt t ok).run P w = .ok v' w ∧ VR ρ v v' := by
  unfold assertA at e
  cases hi : isIfaceT P t <;> rw [hi] at e <;> simp only [cond_true, cond_false] at e
  case true => cases e
  unfold isIfaceT at hi
  cases hu : P.underlying t with
  | none => simp [hu] at hi
  | some d =>
    have hni : ∀ ms, d ≠ .interface ms := by rintro ms rfl; simp [hu] at hi
    have fails : ∀ {x'' : Value}, failsA P t ok = some v → (∀ z, (P.info? t).bind (·.zero) = some z → ok = true → (Instr.typeAssert x'' xt t true).run P w = .ok (.tuple #[z, .bool false]) w) →
        ∃ v', (Instr.typeAssert x'' xt t ok).run P w = .ok v' w ∧ VR ρ v v' := by
      intro x'' ef k
      unfold failsA at ef
      cases ok <;> simp only [cond_true, cond_false] at ef
      · cases ef
      split at ef <;> cases ef
      rename_i z hz
      exact ⟨_, k z hz rfl, .tuple _ _ (.cons _ _ _ _ (constOf_rel ρ z) (.cons _ _ _ _ (.bool _) .nil))⟩
    split at e
    · rename_i u v0
      cases hx with
      | iface _ _ v1 hv =>
        cases hb : Nat.beq u t <;> rw [hb] at e <;> simp only [cond_true, cond_false] at e
        · have hne : u ≠ t := by intro h; rw [h] at hb; simp at hb
          refine fails e fun z hz _ => ?_
          cases d <;> first | exact (hni _ rfl).elim | simp [Instr.typeAssert, run_underlying hu, hne, zero_some hz]
        · have hne : u = t := Nat.eq_of_beq_eq_true hb
          subst hne
          cases e
          cases ok
          · refine ⟨v1, ?_, hv⟩
            cases d <;> first | exact (hni _ rfl).elim | simp [Instr.typeAssert, run_underlying hu]
          · refine ⟨.tuple #[v1, .bool true], ?_, .tuple _ _ (.cons _ _ _ _ hv (.cons _ _ _ _ (.bool _) .nil))⟩
            cases d <;> first | exact (hni _ rfl).elim | simp [Instr.typeAssert, run_underlying hu]
    · cases hx
      refine fails e fun z hz _ => ?_
      cases d <;> first | exact (hni _ rfl).elim | simp [Instr.typeAssert, run_underlying hu, zero_some hz]
    · cases e

theorem min2A_sound {mx : Bool} {x y x' y' v : Value} (e : min2A mx x y = some v) (hx : VR ρ x x') (hy : VR ρ y y') (w : World) :
    ((bif mx then Builtin.max2 else Builtin.min2) x' y').run P w = .ok v w ∧ VR ρ v v := by
  unfold min2A at e
  split at e <;> try (cases e; done)
  rename_i k a k' b
  cases hb : k == k' <;> rw [hb] at e <;> simp only [cond_true, cond_false] at e <;> cases e
  simp at hb
  subst hb
  cases hx; cases hy
  cases mx
  · exact ⟨by simp [Builtin.min2], .int _ _⟩
  · exact ⟨by simp [Builtin.max2], .int _ _⟩

theorem minL_sound (w : World) (mx : Bool) : ∀ (l : List Value) (x x' : Value) (l' : List Value) (v : Value), minL mx x l = some v → VR ρ x x' → VRs ρ l l' →
    ∃ v', (l'.foldlM (bif mx then Builtin.max2 else Builtin.min2) x').run P w = .ok v' w ∧ VR ρ v v'
  | [], x, x', l', v, e, hx, hl => by
    cases hl
    cases e
    exact ⟨x', rfl, hx⟩
  | y :: l, x, x', l', v, e, hx, hl => by
    cases hl with
    | cons _ y' _ l' hy hl =>
    unfold minL at e
    cases hm : min2A mx x y with
    | none => rw [hm] at e; cases e
    | some z =>
      rw [hm] at e
      obtain ⟨h1, h2⟩ := min2A_sound (P := P) hm hx hy w
      obtain ⟨v', h3, h4⟩ := minL_sound w mx l z z l' v e h2 hl
      refine ⟨v', ?_, h4⟩
      rw [List.foldlM_cons, Sem.run_bind, h1]
      exact h3

theorem builtinA_sound {b : Builtin} {ts : Array TypeId} {ty : TypeId} {cs : Array Bool} {xs xs' : List Value} {v : Value} (e : builtinA P b ts.toList xs = some v) (hx : VRs ρ xs xs') (w : World) :
    ∃ v', (builtin b ts ty cs ⟨xs'⟩).run P w = .ok (.value v') w ∧ VR ρ v v' := by
  unfold builtinA at e
  split at e
  · split at e <;> try (cases e; done)
    rename_i t x ht
    obtain ⟨ts⟩ := ts
    dsimp only at ht
    subst ht
    cases hx with
    | cons _ x' _ l' hx hl =>
      cases hl
      unfold lenA at e
      split at e
      · rename_i hu
        split at e <;> cases e
        · cases hx; exact ⟨_, by simp [builtin, Builtin.len_, run_underlying hu, goInt], .int _ _⟩
        · rcases hx.chan with ⟨k, n, hk, _⟩ | ⟨_, s, rfl⟩ | ⟨hk, _⟩ | ⟨hk, _⟩
          · cases k <;> cases hk
          · exact ⟨.int .i64 s.size, by simp [builtin, Builtin.len_, run_underlying hu, goInt], .topI _ _⟩
          · cases hk
          · cases hk
      · rename_i n el hu
        cases e
        exact ⟨_, by simp [builtin, Builtin.len_, run_underlying hu, goInt], .int _ _⟩
      · rename_i el hu
        split at e <;> cases e
        · cases hx <;> exact ⟨_, by simp [builtin, Builtin.len_, run_underlying hu, goInt], .int _ _⟩
        · rcases hx.chan with ⟨k, n, hk, _⟩ | ⟨hk, _⟩ | ⟨_, a, n, c, rfl⟩ | ⟨hk, _⟩
          · cases k <;> cases hk
          · cases hk
          · exact ⟨.int .i64 n, by simp [builtin, Builtin.len_, run_underlying hu, goInt], .topI _ _⟩
          · cases hk
      · cases e
  · split at e <;> try (cases e; done)
    rename_i t x ht
    obtain ⟨ts⟩ := ts
    dsimp only at ht
    subst ht
    cases hx with
    | cons _ x' _ l' hx hl =>
      cases hl
      unfold capA at e
      split at e <;> try (cases e; done)
      rename_i el hu
      split at e <;> try (cases e; done)
      have fin : ∀ (c c' : Nat) (a' : Option Addr) (n : Nat), (isU c = true ∨ c = c') → some (bif isU c then topI .i64 else goInt c) = some v → ∃ v', (builtin .cap ⟨[t]⟩ ty cs ⟨[.slice a' n c']⟩).run P w = .ok (.value v') w ∧ VR ρ v v' := by
        intro c c' a' n hc e
        refine ⟨goInt c', by simp [builtin, Builtin.cap_, run_underlying hu], ?_⟩
        cases hu' : isU c with
        | true => rw [hu'] at e; cases e; exact .topI _ _
        | false =>
          rw [hu'] at e
          rcases hc with hc | hc
          · rw [hu'] at hc; cases hc
          · subst hc; cases e; exact .int _ _
      cases hx with
      | sliceN n c => exact fin _ _ _ _ (.inr rfl) e
      | slice b o r d n c h hc => exact fin _ _ _ _ (.inr rfl) e
      | sliceU b o r d n c p h hn hp => exact fin _ _ _ _ (.inl rfl) e
      | sliceW b r d n k h h' hn => exact fin _ _ _ _ (.inl rfl) e
      | sliceK b o r d n c k p h hn hk hp => exact fin _ _ _ _ (.inl (isU_unkK k)) e
  · unfold minA at e
    cases hx with
    | nil => cases e
    | cons x x' l l' hx hl =>
      obtain ⟨v', h1, h2⟩ := minL_sound (P := P) w false l x x' l' v e hx hl
      simp only [cond_false] at h1
      exact ⟨v', by simp only [builtin, Builtin.min_]; rw [Sem.run_bind, h1]; rfl, h2⟩
  · unfold minA at e
    cases hx with
    | nil => cases e
    | cons x x' l l' hx hl =>
      obtain ⟨v', h1, h2⟩ := minL_sound (P := P) w true l x x' l' v e hx hl
      simp only [cond_true] at h1
      exact ⟨v', by simp only [builtin, Builtin.max_]; rw [Sem.run_bind, h1]; rfl, h2⟩
  · unfold sdataA at e
    split at e <;> try (cases e; done)
    · cases e
      cases hx with
      | cons _ x' _ l' hx hl =>
        cases hl; cases hx
        exact ⟨_, rfl, .ptrN⟩
    · rename_i b o n c
      cases hx with
      | cons _ x' _ l' hx hl =>
        cases hl
        have fin : ∀ (r d p n' c' : Nat), ρ[b]? = some (some (r, d)) → 0 < c' → p = d + o → some (Value.pointer (some ⟨b, o, none⟩)) = some v →
            ∃ v', (builtin .unsafeSliceData ts ty cs ⟨[.slice (some ⟨r, p, none⟩) n' c']⟩).run P w = .ok (.value v') w ∧ VR ρ v v' := by
          intro r d p n' c' hb hc hp e
          cases e
          subst hp
          refine ⟨.pointer (some ⟨r, d + o, none⟩), ?_, .ptr _ _ _ _ hb⟩
          have : c' ≠ 0 := by omega
          have hs : Builtin.unsafeSliceData_ ts ty #[.slice (some ⟨r, d + o, none⟩) n' c'] = (if c' ≠ 0 then pure (.pointer (some ⟨r, d + o, none⟩)) else do
              if (← viewAt r).isSome then pure (.pointer (some ⟨r, d + o, none⟩)) else pure (.pointer (some ⟨← newObj (.view ⟨r, d + o, none⟩ (← elemOf ty)), 0, none⟩))) := rfl
          rw [if_pos this] at hs
          show (builtin .unsafeSliceData ts ty cs #[.slice (some ⟨r, d + o, none⟩) n' c']).run P w = _
          simp only [builtin]
          rw [hs]
          rfl
        cases hu : isU c with
        | true =>
          rw [hu, cond_true] at e
          cases hl : Nat.blt 0 (lbC n c) <;> rw [hl] at e <;> simp only [cond_true, cond_false] at e
          · cases e
          have hl' : 0 < lbC n c := Nat.le_of_ble_eq_true hl
          obtain ⟨r, d, c', p, hb, ⟨_, _, hk⟩, hp, rfl⟩ := hx.uslice hu
          exact fin r d p n c' hb (by omega) (by rcases hp with hp | ⟨_, hp⟩; exact hp; omega) e
        | false =>
          rw [hu, cond_false] at e
          cases hl : Nat.blt 0 c <;> rw [hl] at e <;> simp only [cond_true, cond_false] at e
          · cases e
          have hl' : 0 < c := Nat.le_of_ble_eq_true hl
          obtain ⟨r, d, hb, rfl⟩ := hx.eslice hu
          exact fin r d _ n c hb hl' rfl e
  · cases e

set_option maxHeartbeats 1000000 in
theorem valA_sound (R : HR P B ρ h w.heap) {E E' : Operand → Value} {o : Oper} {v : Value} {fp : List Nat} (e : valA P h E o = some (v, fp))
    (hE : ∀ x ∈ o.op.operands, VR ρ (E x) (E' x)) : ∃ v', (execOp E' o).run P w = .ok (.value v') w ∧ VR ρ v v' := by
  obtain ⟨dst, op, type, pos, after, guard⟩ := o
  cases op <;> simp only [valA] at e <;> simp only [Op.operands] at hE <;> first | (cases e; done) | skip
  case move x => cases e; exact ⟨_, by simp [execOp], hE x (by simp)⟩
  case assign x => cases e; exact ⟨_, by simp [execOp], hE x (by simp)⟩
  case pick c a b =>
    have hc := hE c (by simp)
    split at e <;> cases e
    · rename_i hh; rw [hh] at hc
      generalize hq : E' c = q at hc
      cases hc
      exact ⟨_, by simp [execOp, hq, asBool], hE a (by simp)⟩
    · rename_i hh; rw [hh] at hc
      generalize hq : E' c = q at hc
      cases hc
      exact ⟨_, by simp [execOp, hq, asBool], hE b (by simp)⟩
  case build t parts =>
    split at e <;> cases e
    rename_i hb
    obtain ⟨v', h1, h2⟩ := buildA_sound hb (PR.map (E' := E') parts.toList fun p hp => hE p.2 (by simp only [List.mem_toArray, List.mem_map]; exact ⟨p, hp, rfl⟩)) w
    refine ⟨v', ?_, h2⟩
    have : (parts.map fun (i, x) => (i, E' x)) = ⟨parts.toList.map fun p => (p.1, E' p.2)⟩ := by apply Array.ext'; simp
    simp only [execOp, this, Sem.run_bind, h1, Result.andThen_ok, Sem.run_pure]
  case load t a =>
    obtain ⟨v', h1, h2⟩ := loadA_sound R e (hE a (by simp))
    exact ⟨v', by simp [execOp, h1], h2⟩
  case nilCheck x =>
    have hx := hE x (by simp)
    generalize hq : E x = q at hx e
    generalize hq' : E' x = q' at hx
    split at e <;> cases e
    · cases hx with
      | ptr b o r d hb => exact ⟨_, by simp [execOp, hq'], .ptr _ _ _ _ hb⟩
    · cases hx with
      | func f as bs cs ds k1 k2 => exact ⟨_, by simp [execOp, hq'], .func _ _ _ _ _ k1 k2⟩
    · cases hx with
      | yield l r k => exact ⟨_, by simp [execOp, hq'], .yield _ _ k⟩
  case binOp op t x y yt =>
    split at e <;> cases e
    rename_i hb
    obtain ⟨v', h1, h2⟩ := binA_sound hb (hE x (by simp)) (hE y (by simp)) x y w
    refine ⟨v', ?_, h2⟩
    simp only [execOp]
    rw [Sem.run_bind, h1]; rfl
  case unOp op t x =>
    split at e <;> cases e
    rename_i hb
    obtain ⟨v', h1, h2⟩ := unA_sound (P := P) hb (hE x (by simp)) w
    exact ⟨v', by simp only [execOp]; rw [Sem.run_bind, h1]; rfl, h2⟩
  case convert src dst' x =>
    cases hs : (P.underlying src).isSome <;> rw [hs] at e <;> simp only [cond_true, cond_false] at e
    case false => cases e
    obtain ⟨v', h1, h2⟩ := convA_sound R e (hE x (by simp)) hs
    exact ⟨v', by simp only [execOp]; rw [Sem.run_bind, h1]; rfl, h2⟩
  case makeInterface t x =>
    cases hu : P.underlying t with
    | none => simp [hu] at e
    | some d =>
      simp only [hu] at e
      have : ∀ v, (Instr.makeInterface t v).run P w = .ok (.iface t v) w := by
        intro v
        cases d <;> first | (cases e; done) | simp [Instr.makeInterface, run_underlying hu]
      cases d <;> cases e <;> exact ⟨_, by simp only [execOp]; rw [Sem.run_bind, this]; rfl, .iface _ _ _ (hE x (by simp))⟩
  case makeFunc fn first cap =>
    cases fn <;> cases e
    rename_i f
    simp only [arr_map]
    refine ⟨_, by simp [execOp, Instr.makeFunc]; rfl, ?_⟩
    rw [arr_map, arr_map]
    exact .func _ _ _ _ _ (map_rel _ fun x hx => hE x (by simp at hx; simp [hx])) (map_rel _ fun x hx => hE x (by simp at hx; simp [hx]))
  case slice t x lo hi mx =>
    split at e <;> cases e
    rename_i hb
    obtain ⟨v', h1, h2⟩ := sliceA_sound hb (hE x (by simp)) (vo_map (E' := E') fun y hy => hE y (by simp [hy])) (vo_map (E' := E') fun y hy => hE y (by simp [hy])) (vo_map (E' := E') fun y hy => hE y (by simp [hy])) w
    exact ⟨v', by simp only [execOp]; rw [Sem.run_bind, h1]; rfl, h2⟩
  case fieldAddr s x f =>
    have hx := hE x (by simp)
    generalize hq : E x = q at hx e
    generalize hq' : E' x = q' at hx
    split at e <;> try (cases e; done)
    rename_i fs hu
    split at e <;> try (cases e; done)
    rename_i fd hf
    split at e <;> cases e
    rename_i hs
    cases hx with
    | ptr b o r d hb =>
      exact ⟨_, by simp [execOp, hq', Instr.fieldAt, run_underlying hu, hf, Instr.sureAddr, fieldPlace, sizeA_some hs, Addr.add_lit, Nat.add_assoc], .ptr _ _ _ _ hb⟩
  case field t x f =>
    have hx := hE x (by simp)
    generalize hq : E x = q at hx e
    generalize hq' : E' x = q' at hx
    split at e <;> try (cases e; done)
    rename_i fs hu
    split at e <;> try (cases e; done)
    rename_i fd hf
    split at e <;> try (cases e; done)
    split at e <;> cases e
    rename_i hp
    cases hx with
    | agg cs ds hcs =>
      obtain ⟨v', h1, h2⟩ := partA_sound hp hcs w
      exact ⟨v', by simp [execOp, hq', Instr.field, run_underlying hu, hf, asAgg, h1], h2⟩
  case indexAddr t x ix =>
    have hx := hE x (by simp)
    have hi := hE ix (by simp)
    generalize hq : E x = q at hx e
    generalize hq' : E' x = q' at hx
    cases hn : natOf (E ix) with
    | none => simp [hn] at e
    | some i =>
      obtain ⟨k, hk⟩ := natOf_rel hn hi
      simp only [hn] at e
      split at e
      · rename_i n el b off hu
        cases hs : sizeA P el with
        | none => simp [hs] at e
        | some s =>
          simp only [hs] at e
          cases hb : Nat.blt i n <;> rw [hb] at e <;> simp only [cond_true, cond_false] at e <;> cases e
          have hlt : i < n := by simpa [Nat.blt_eq] using hb
          cases hx with
          | ptr b o r d hb =>
            have : (0 : Int) ≤ (i : Int) ∧ (i : Int) < (n : Int) := ⟨by omega, by omega⟩
            exact ⟨_, by simp [execOp, hq', hk, Instr.indexAt, asIntOf, run_underlying hu, Instr.sureAddr, sizeA_some hs, this, Addr.add_lit, Nat.add_assoc, hlt], .ptr _ _ _ _ hb⟩
      · rename_i el b off n c hu
        cases hs : sizeA P el with
        | none => simp [hs] at e
        | some s =>
          simp only [hs] at e
          cases hb : Nat.blt i n <;> rw [hb] at e <;> simp only [cond_true, cond_false] at e <;> cases e
          have hlt : i < n := by simpa [Nat.blt_eq] using hb
          have : (0 : Int) ≤ (i : Int) ∧ (i : Int) < (n : Int) := ⟨by omega, by omega⟩
          obtain ⟨r, d, c', p, hb, hp, rfl⟩ := hx.rslice
          rcases hp with rfl | ⟨h0, _⟩
          · exact ⟨_, by simp [execOp, hq', hk, Instr.indexAt, asIntOf, run_underlying hu, sizeA_some hs, this, Addr.add_lit, Nat.add_assoc, hlt], .ptr _ _ _ _ hb⟩
          · omega
      · cases e
  case sliceToArrayPointer t x =>
    have hx := hE x (by simp)
    generalize hq : E x = q at hx e
    generalize hq' : E' x = q' at hx
    split at e <;> try (cases e; done)
    rename_i n el b off len c hu
    cases h1 : Nat.ble 1 len <;> rw [h1] at e <;> simp only [cond_true, cond_false] at e <;> try (cases e; done)
    cases h2 : Nat.ble n len <;> rw [h2] at e <;> simp only [cond_true, cond_false] at e <;> cases e
    have hle1 : 1 ≤ len := Nat.le_of_ble_eq_true h1
    have hle : n ≤ len := Nat.le_of_ble_eq_true h2
    obtain ⟨r, d, c', p, hb, hp, rfl⟩ := hx.rslice
    rcases hp with rfl | ⟨h0, _⟩
    · exact ⟨_, by simp [execOp, hq', Instr.arrayAt, run_underlying hu, Nat.not_lt.2 hle], .ptr _ _ _ _ hb⟩
    · omega
  case index t x ix =>
    have hx := hE x (by simp)
    have hi := hE ix (by simp)
    generalize hq : E x = q at hx e
    generalize hq' : E' x = q' at hx
    cases hn : natOf (E ix) with
    | none => simp [hn] at e
    | some i =>
      obtain ⟨k, hk⟩ := natOf_rel hn hi
      simp only [hn] at e
      split at e
      · rename_i n el cs hu
        cases hs : sizeA P el with
        | none => simp [hs] at e
        | some s =>
          simp only [hs] at e
          cases hb : Nat.blt i n <;> rw [hb] at e <;> simp only [cond_true, cond_false] at e
          · cases e
          have hlt : i < n := by simpa [Nat.blt_eq] using hb
          split at e <;> cases e
          rename_i hp
          cases hx with
          | agg cs ds hcs =>
            obtain ⟨v', h1, h2⟩ := partA_sound hp hcs w
            have : (0 : Int) ≤ (i : Int) ∧ (i : Int) < (n : Int) := ⟨by omega, by omega⟩
            exact ⟨v', by simp [execOp, hq', hk, Instr.index, asIntOf, run_underlying hu, sizeA_some hs, this, h1, hlt], h2⟩
      · rename_i s hu
        split at e <;> cases e
        rename_i b hb
        cases hx
        rw [← byte_get] at hb
        exact ⟨_, by simp [execOp, hq', hk, Instr.index, asIntOf, run_underlying hu, hb], .int _ _⟩
      · cases e
  case typeAssert x xt t ok =>
    split at e <;> cases e
    rename_i ha
    obtain ⟨v', h1, h2⟩ := assertA_sound (xt := xt) ha (hE x (by simp)) w
    exact ⟨v', by simp only [execOp]; rw [Sem.run_bind, h1]; rfl, h2⟩
  case extract x ix =>
    have hx := hE x (by simp)
    generalize hq : E x = q at hx e
    generalize hq' : E' x = q' at hx
    split at e <;> try (cases e; done)
    split at e <;> cases e
    rename_i hp
    cases hx with
    | tuple cs ds hcs =>
      obtain ⟨v', h1, h2⟩ := hcs.get ix _ hp
      exact ⟨v', by simp [execOp, hq', Instr.extract, h1], h2⟩
  case call c =>
    obtain ⟨callee, args, ts⟩ := c
    simp only [Call.operands] at hE
    cases callee <;> first | (cases e; done) | skip
    rename_i b
    dsimp only at e
    have hargs : VRs ρ (args.toList.map E) (args.toList.map E') := map_rel _ fun x hx => hE x (by simp; simpa using hx)
    split at e
    · cases e
      rename_i hb
      obtain ⟨v', h1, h2⟩ := builtinA_sound (ty := type) (cs := args.map fun | .const _ => true | _ => false) hb hargs w
      refine ⟨v', ?_, h2⟩
      simp only [execOp, resolve, Sem.run_bind, Sem.run_pure, Result.andThen_ok, invoke]
      rw [arr_map]
      exact h1
    · obtain ⟨v', h1, h2⟩ := mlenA_sound (ty := type) (cs := args.map fun | .const _ => true | _ => false) R e hargs
      refine ⟨v', ?_, h2⟩
      simp only [execOp, resolve, Sem.run_bind, Sem.run_pure, Result.andThen_ok, invoke]
      rw [arr_map]
      exact h1
  case lookup t x ix ok =>
    obtain ⟨v', h1, h2⟩ := lookA_sound R e (hE x (by simp)) (hE ix (by simp))
    exact ⟨v', by simp only [execOp]; rw [Sem.run_bind, h1]; rfl, h2⟩

end Go.Sim

/- The abstract machine: operations that make one block. -/
namespace Go.Sim
open Go.RowKit
set_option linter.unusedVariables false
set_option linter.unusedSimpArgs false
set_option linter.unusedSectionVars false
variable [Ev]

variable {P : Program} {B : Nat} {ρ : Map} {h : H} {w : World}

theorem notBad_of {v v' : Value} (hv : VR ρ v v') (hc : allCell v.cells.toList = true) : notBad v = true := by
  cases hv <;> first | rfl | (simp [Value.cells, allCell, cellB] at hc)

theorem isU_small {n : Nat} (h : n ≤ 16777216) : isU n = false := by
  unfold isU unk
  rw [Bool.eq_false_iff]
  intro hh
  have := Nat.le_of_ble_eq_true hh
  omega

theorem repl_get : ∀ (n : Nat) (z : List Value) (j : Nat) (v : Value), (repl n z)[j]? = some v → j < n * z.length ∧ z[j % z.length]? = some v
  | 0, z, j, v, h => by simp [repl] at h
  | n + 1, z, j, v, h => by
    simp only [repl] at h
    rcases Nat.lt_or_ge j z.length with hl | hl
    · rw [List.getElem?_append_left hl] at h
      refine ⟨?_, by rw [Nat.mod_eq_of_lt hl]; exact h⟩
      rw [Nat.succ_mul]; omega
    · rw [List.getElem?_append_right hl] at h
      obtain ⟨h1, h2⟩ := repl_get n z _ v h
      refine ⟨by rw [Nat.succ_mul]; omega, ?_⟩
      rw [← Nat.mod_eq_sub_mod hl] at h2
      exact h2

theorem repl_length : ∀ (n : Nat) (z : List Value), (repl n z).length = n * z.length
  | 0, z => by simp [repl]
  | n + 1, z => by simp [repl, repl_length n z, Nat.succ_mul]; omega

/-- what the machine fills a new row with -/
theorem zeros_rel {z : Value} {n : Nat} (hz : notBad (constOf z) = true) :
    VRs ρ (repl n (constOf z).cells.toList) ((Array.range (n * z.cells.size)).map (z.cells[· % z.cells.size]!)).toList := by
  have hc := cells_rel (constOf_rel ρ z) hz
  have hlen : (constOf z).cells.toList.length = z.cells.size := by simpa using hc.length
  refine VRs.of_get _ _ (by rw [repl_length, hlen]; simp) ?_
  intro i v v' h1 h2
  obtain ⟨k1, k2⟩ := repl_get _ _ _ _ h1
  rw [hlen] at k1 k2
  obtain ⟨u, g1, g2⟩ := hc.get _ _ k2
  have hlt : i % z.cells.size < z.cells.size := by
    apply Nat.mod_lt
    rcases Nat.eq_zero_or_pos z.cells.size with h0 | h0
    · rw [h0] at k1; simp at k1
    · exact h0
  have : u = v' := by
    have e1 : ((Array.range (n * z.cells.size)).map (z.cells[· % z.cells.size]!))[i]? = some v' := by rw [Array.getElem?_toList] at h2; exact h2
    rw [Array.getElem?_map] at e1
    have e2 : (Array.range (n * z.cells.size))[i]? = some i := by simp [k1]
    rw [e2] at e1
    simp only [Option.map_some, Option.some.injEq] at e1
    rw [← e1, getElem!_pos z.cells _ hlt]
    have e3 : z.cells[i % z.cells.size]? = some u := by simpa using g1
    rw [Array.getElem?_eq_getElem hlt] at e3
    exact (Option.some.inj e3).symm
  exact this ▸ g2

structure Made (ρ : Map) (w w' : World) (cs : List Value) (el : TypeId) (c : Array Value) (f : Nat × Nat) : Prop where
  heap : w'.heap = w.heap.push (.cells c el f)
  os : w'.os = w.os
  tape : w'.tape = w.tape
  output : w'.output = w.output
  frozen : f.1 = f.2 ∨ c.size ≤ f.1
  cells : ∀ (o : Nat) (v : Value), cs[o]? = some v → ∃ v', c[0 + o]? = some v' ∧ VR ρ v v'

theorem Made.of {w : World} {cs : List Value} {el : TypeId} {c : Array Value} (h : VRs ρ cs c.toList) : Made ρ w { w with heap := w.heap.push (.cells c el) } cs el c (0, 0) :=
  ⟨rfl, rfl, rfl, rfl, .inl rfl, fun o v hv => by
    obtain ⟨v', h1, h2⟩ := h.get o v hv
    exact ⟨v', by simpa using h1, h2⟩⟩

theorem i64_small {n : Nat} (h : n ≤ 1000000) : IntKind.i64.wrap (n : Int) = n := IntWalk.i64_in _ (by omega)

theorem push_modify (hp : Array Obj) (x : Obj) (f : Obj → Obj) : (hp.push x).modify hp.size f = hp.push (f x) := by
  apply Array.ext_getElem?
  intro i
  rw [Array.getElem?_modify, Array.getElem?_push, Array.getElem?_push]
  by_cases h : i = hp.size
  · subst h; simp
  · rw [if_neg (fun e => h e.symm), if_neg h, if_neg h]

theorem run_markStringish (w : World) (c : Array Value) (el : TypeId) :
    (markStringish ⟨w.heap.size, 0, none⟩).run P { w with heap := w.heap.push (.cells c el) } = .ok () { w with heap := w.heap.push (.cells c el (c.size, c.size + 1)) } := by
  have hs : ({ w with heap := w.heap.push (.cells c el) } : World).shape? w.heap.size = some (el, c.size) := by simp [World.shape?]
  simp only [markStringish, shape, Sem.run_bind, Sem.run, hs, Result.andThen_ok, freeze, World.freeze]
  rw [if_neg (by omega)]
  simp [push_modify]

set_option maxHeartbeats 1000000 in
theorem newA_sound {E E' : Operand → Value} {o : Oper} {cs : List Value} {el : TypeId} {mk : Nat → Value} (e : newA P E o = some (cs, el, mk))
    (hE : ∀ x ∈ o.op.operands, VR ρ (E x) (E' x)) (w : World) :
    ∃ (c : Array Value) (f : Nat × Nat) (v' : Value) (w' : World), (execOp E' o).run P w = .ok (.value v') w' ∧ Made ρ w w' cs el c f ∧
      (∀ (ρ' : Map) (b : Nat), ρ'[b]? = some (some (w.heap.size, 0)) → VR ρ' (mk b) v') := by
  obtain ⟨dst, op, type, pos, after, guard⟩ := o
  cases op <;> simp only [newA] at e <;> simp only [Op.operands] at hE <;> first | (cases e; done) | skip
  case alloc t =>
    split at e <;> try (cases e; done)
    rename_i z hz
    cases hc : allCell (constOf z).cells.toList <;> rw [hc] at e <;> simp only [cond_true, cond_false] at e <;> cases e
    refine ⟨z.cells, (0, 0), _, _, ?_, Made.of (cells_rel (constOf_rel ρ z) (notBad_of (constOf_rel ρ z) hc)), fun ρ' b hb => .ptr b 0 w.heap.size 0 hb⟩
    simp [execOp, Instr.alloc, zero_some hz, newVar, newRow, newObj, Sem.run]
  case box t x =>
    cases hc : allCell (E x).cells.toList <;> rw [hc] at e <;> simp only [cond_true, cond_false] at e <;> cases e
    have hx := hE x (by simp)
    refine ⟨(E' x).cells, (0, 0), _, _, ?_, Made.of (cells_rel hx (notBad_of hx hc)), fun ρ' b hb => .ptr b 0 w.heap.size 0 hb⟩
    simp [execOp, Instr.box, newVar, newRow, newObj, Sem.run]
  case buildSlice t n parts =>
    split at e <;> try (cases e; done)
    rename_i el' hu
    split at e <;> try (cases e; done)
    rename_i i hi
    split at e <;> try (cases e; done)
    rename_i z hz
    cases hb : Nat.ble (n * i.size) 16777216 && Nat.ble n 16777216 <;> rw [hb] at e <;> simp only [cond_true, cond_false] at e
    case false => cases e
    split at e <;> try (cases e; done)
    rename_i cs0 hf
    cases hc : allCell cs0.toList && Nat.beq (constOf z).cells.size i.size && notBad (constOf z) && (parts.toList.all fun p => notBad (E p.2)) <;> rw [hc] at e <;> simp only [cond_true, cond_false] at e <;> cases e
    simp only [Bool.and_eq_true, Nat.ble_eq] at hc hb
    obtain ⟨⟨⟨hc1, hc2⟩, hc3⟩, hc4⟩ := hc
    have hsz : (constOf z).cells.size = i.size := Nat.eq_of_beq_eq_true hc2
    have hzc := cells_rel (constOf_rel ρ z) hc3
    have hlen : z.cells.size = i.size := by rw [← hsz]; simpa using hzc.length.symm
    have hfr := fill_rel (PR.map (E' := E') parts.toList fun p hp => hE p.2 (by simp only [List.mem_toArray, List.mem_map]; exact ⟨p, hp, rfl⟩)) (by simpa using hc4)
      (cs := ⟨repl n (constOf z).cells.toList⟩) (ds := (Array.range (n * z.cells.size)).map (z.cells[· % z.cells.size]!)) (zeros_rel hc3) hf
    obtain ⟨r', hf', hv'⟩ := hfr
    have hpm : (parts.map fun (i, x) => (i, E' x)).toList = parts.toList.map fun p => (p.1, E' p.2) := by simp
    have hso : (sizeOf el).run P w = .ok i.size w := by simp [sizeOf, typeInfo, hi]
    have hzv : (zeroValue el).run P w = .ok z w := by simp [zeroValue, typeInfo, hi, hz]
    have hne : isU n = false := isU_small (by omega)
    refine ⟨r', (0, 0), _, _, ?_, Made.of hv', fun ρ' b hb => .slice b 0 w.heap.size 0 n n hb hne⟩
    have hbig : ¬ (n * i.size > 2 ^ 24) := by omega
    rw [hlen] at hf'
    by_cases h0 : n * i.size = 0
    · have e0 : (Array.range (n * i.size)).map (z.cells[· % i.size]!) = #[] := by rw [h0]; simp
      rw [e0] at hf'
      have hn0 : n = 0 ∨ i.size = 0 := Nat.mul_eq_zero.1 h0
      rw [← hlen] at e0
      simp [execOp, Instr.buildSlice, run_underlying hu, hso, hbig, h0, hn0, Array.range_zero', hf', newRow, newObj, Sem.run]
    · have hn0 : ¬ (n = 0 ∨ i.size = 0) := fun hh => h0 (Nat.mul_eq_zero.2 hh)
      simp [execOp, Instr.buildSlice, run_underlying hu, hso, hbig, h0, hn0, hzv, hlen, hf', newRow, newObj, Sem.run]
  case makeSlice t l c =>
    have hl := hE l (by simp)
    have hcc := hE c (by simp)
    cases h1 : natOf (E l) with
    | none => simp [h1] at e
    | some ln =>
      cases h2 : natOf (E c) with
      | none => simp [h1, h2] at e
      | some cn =>
        simp only [h1, h2] at e
        split at e <;> try (cases e; done)
        rename_i l0 c0 el' q1 q2 hu
        cases q1; cases q2
        split at e <;> try (cases e; done)
        rename_i i hi
        split at e <;> try (cases e; done)
        rename_i z hz
        cases hb : Nat.ble ln cn && Nat.ble cn 1000000 && Nat.ble i.bytes 1000000 && Nat.beq (constOf z).cells.size i.size && allCell (constOf z).cells.toList <;> rw [hb] at e <;> simp only [cond_true, cond_false] at e <;> cases e
        simp only [Bool.and_eq_true, Nat.ble_eq] at hb
        obtain ⟨⟨⟨⟨g1, g2⟩, g3⟩, g4⟩, g5⟩ := hb
        obtain ⟨k1, hk1⟩ := natOf_rel h1 hl
        obtain ⟨k2, hk2⟩ := natOf_rel h2 hcc
        have hnb := notBad_of (constOf_rel ρ z) g5
        have hsz : (constOf z).cells.size = i.size := Nat.eq_of_beq_eq_true g4
        have hzc := cells_rel (constOf_rel ρ z) hnb
        have hlen : z.cells.size = i.size := by rw [← hsz]; simpa using hzc.length.symm
        have hso : (sizeOf el).run P w = .ok i.size w := by simp [sizeOf, typeInfo, hi]
        have hzv : (zeroValue el).run P w = .ok z w := by simp [zeroValue, typeInfo, hi, hz]
        have hti : (typeInfo el).run P w = .ok i w := by simp [typeInfo, hi]
        have hne : isU cn = false := isU_small (by omega)
        have b1 : ((i.bytes * cn : Nat) : Int) ≤ 1000000000000 := by
          have := Nat.mul_le_mul g3 g2
          omega
        rw [Int.natCast_mul] at b1
        have t1 : ¬ ((cn : Int) < 0) := by omega
        have t2 : ¬ (281474976710656 < (i.bytes : Int) * (cn : Int)) := by omega
        have t3 : ¬ ((ln : Int) < 0) := by omega
        have t4 : ¬ (cn < ln) := by omega
        have r0 : ∀ n, (askRoom n).run P w = .ok () w := by intro n; unfold askRoom; split <;> rfl
        refine ⟨_, (0, 0), .slice (some ⟨w.heap.size, 0, none⟩) ln cn, _, ?_, Made.of (zeros_rel (n := cn) hnb), fun ρ' b hb => .slice b 0 w.heap.size 0 ln cn hb hne⟩
        have w1 := i64_small (show ln ≤ 1000000 by omega)
        have w2 := i64_small g2
        by_cases h0 : cn * i.size = 0
        · have hn0 : cn = 0 ∨ i.size = 0 := Nat.mul_eq_zero.1 h0
          have e0 : (Array.range (cn * z.cells.size)).map (z.cells[· % z.cells.size]!) = #[] := by rw [hlen, h0]; simp
          simp [execOp, Instr.makeSlice, run_underlying hu, hk1, hk2, asInt, asIntOf, hti, w1, w2, t1, t2, t3, t4, r0, hso, h0, hn0, Array.range_zero', newRow, newObj, Sem.run]
          rw [e0]
        · have hn0 : ¬ (cn = 0 ∨ i.size = 0) := fun hh => h0 (Nat.mul_eq_zero.2 hh)
          simp [execOp, Instr.makeSlice, run_underlying hu, hk1, hk2, asInt, asIntOf, hti, w1, w2, t1, t2, t3, t4, r0, hso, h0, hn0, hzv, hlen, newRow, newObj, Sem.run]
  case convert src dst' x =>
    have hx := hE x (by simp)
    generalize hq : E x = q at hx e
    generalize hq' : E' x = q' at hx
    split at e <;> try (cases e; done)
    rename_i el' s h1 h2
    cases h3 : P.underlying el' with
    | none => simp [h3] at e
    | some k3 =>
      simp only [h3] at e
      split at e <;> try (cases e; done)
      rename_i hk3
      cases hk3
      cases e
      cases hx
      let cap : Nat := Question.cut (.appendCap s.size 0 el) (w.tape w.drawn (.appendCap s.size 0 el))
      have hcap : s.size ≤ cap := by show s.size ≤ s.size + _; omega
      let c : Array Value := (s.data.map fun b => Value.int .u8 b.toNat) ++ Array.replicate (cap - s.size) (.int .u8 0)
      refine ⟨c, (c.size, c.size + 1), .slice (some ⟨w.heap.size, 0, none⟩) s.size cap, { w with heap := w.heap.push (.cells c el (c.size, c.size + 1)), drawn := w.drawn + 1 }, ?_, ⟨rfl, rfl, rfl, rfl, .inr (Nat.le_refl _), ?_⟩, fun ρ' b hb => .sliceU b 0 w.heap.size 0 _ _ _ hb hcap (.inl rfl)⟩
      · have hch : (choose (.appendCap s.size 0 el)).run P w = .ok cap { w with drawn := w.drawn + 1 } := by
          simp [choose, Sem.run, Question.forced, cap]
        have hms := run_markStringish (P := P) { w with drawn := w.drawn + 1 } c el
        have hsb : (Conv.stringToBytes el s).run P w = .ok (.slice (some ⟨w.heap.size, 0, none⟩) s.size cap) { w with heap := w.heap.push (.cells c el (c.size, c.size + 1)), drawn := w.drawn + 1 } := by
          unfold Conv.stringToBytes
          rw [Sem.run_bind, hch]
          simp only [Result.andThen_ok, newRow, newObj, Sem.run_bind, Sem.run, Sem.run_pure]
          dsimp only at hms
          rw [show (s.data.map fun b => Value.int .u8 b.toNat) ++ Array.replicate (cap - s.size) (.int .u8 0) = c from rfl, hms]
          rfl
        simp only [execOp, hq', convert, Sem.run_bind, run_underlying h1, run_underlying h2, run_underlying h3, Result.andThen_ok, hsb, Sem.run_pure]
      · intro o v hv
        refine ⟨v, ?_, ?_⟩
        · have : o < s.size := by have := (List.getElem?_eq_some_iff.1 hv).1; simpa using this
          show ((s.data.map fun b => Value.int .u8 b.toNat) ++ Array.replicate (cap - s.size) (.int .u8 0))[0 + o]? = some v
          rw [Nat.zero_add, Array.getElem?_append_left (by simpa using this)]
          simpa using hv
        · rw [List.getElem?_map] at hv
          cases hb : s.data.toList[o]? with
          | none => rw [hb] at hv; cases hv
          | some b => rw [hb] at hv; cases hv; exact .int _ _

end Go.Sim

/- The abstract machine: operations with an effect. -/
namespace Go.Sim
open Go.RowKit
set_option linter.unusedVariables false
set_option linter.unusedSimpArgs false
set_option linter.unusedSectionVars false
variable [Ev]

variable {P : Program} {B : Nat} {ρ : Map} {h : H} {w : World}

def fpIn (fs : List AF) (b : Nat) : Prop := ∃ f ∈ fs, ∃ ops rest fp cur k, f.todo = AI.drawn ops rest fp cur :: k ∧ ∃ j, (j, b) ∈ fp

theorem fpHas_spec {b : Nat} : ∀ {fp : List (Nat × Nat)}, fpHas b fp = false → ∀ j, (j, b) ∉ fp
  | [], _, j => by simp
  | (i, c) :: l, e, j => by
    simp only [fpHas] at e
    cases hb : Nat.beq c b <;> rw [hb] at e <;> simp only [cond_true, cond_false] at e
    · intro hm
      rcases List.mem_cons.1 hm with hm | hm
      · cases hm; simp at hb
      · exact fpHas_spec e j hm
    · cases e

theorem freeOf_spec {b : Nat} : ∀ {fs : List AF}, freeOf b fs = true → ¬ fpIn fs b
  | [], _, ⟨f, hf, _⟩ => by simp at hf
  | f :: fs, e, ⟨g, hg, ops, rest, fp, cur, k, h1, j, h2⟩ => by
    simp only [freeOf, Bool.and_eq_true] at e
    rcases List.mem_cons.1 hg with rfl | hg
    · rw [h1] at e
      have := e.1
      simp only [Bool.not_eq_true'] at this
      exact fpHas_spec this j h2
    · exact freeOf_spec e.2 ⟨g, hg, ops, rest, fp, cur, k, h1, j, h2⟩

structure Eff (P : Program) (B : Nat) (ρ : Map) (h : H) (w : World) (fs : List AF) (ρ' : Map) (h' : H) (w' : World) : Prop where
  le : le ρ ρ'
  hr : HR P B ρ' h' w'.heap
  below : Below B w w'
  none : ∀ b : Nat, ρ[b]? = some none → ρ'[b]? = some none
  keep : ∀ b o, fpIn fs b → h.get b = some o → h'.get b = some o
  n : h.n ≤ h'.n

theorem Eff.refl (R : HR P B ρ h w.heap) (fs : List AF) : Eff P B ρ h w fs ρ h w := ⟨.refl _, R, .refl _ _, fun _ h => h, fun _ _ _ h => h, Nat.le_refl _⟩

/-- a row of cells is written -/
def putArr : Array Value → Nat → List Value → Array Value
  | c, _, [] => c
  | c, o, v :: l => putArr (c.setIfInBounds o v) (o + 1) l

theorem putArr_size : ∀ (l : List Value) (c : Array Value) (o : Nat), (putArr c o l).size = c.size
  | [], c, o => rfl
  | v :: l, c, o => by simp [putArr, putArr_size l]

theorem setAll_rel : ∀ {vs vs' : List Value}, VRs ρ vs vs' → ∀ {cs : List Value} {c : Array Value} {d : Nat} (o : Nat),
    (∀ (j : Nat) (v : Value), cs[j]? = some v → ∃ v', c[d + j]? = some v' ∧ VR ρ v v') →
    ∀ (j : Nat) (v : Value), (setAll cs o vs)[j]? = some v → ∃ v', (putArr c (d + o) vs')[d + j]? = some v' ∧ VR ρ v v'
  | _, _, .nil, cs, c, d, o, hc => hc
  | _, _, .cons v v' l l' hv hl, cs, c, d, o, hc => by
    simp only [setAll, putArr]
    rw [show d + o + 1 = d + (o + 1) from by omega]
    refine setAll_rel hl (o + 1) ?_
    intro j u hj
    rw [List.getElem?_set] at hj
    split at hj
    · rename_i e
      subst e
      split at hj
      · rename_i hlt
        cases hj
        obtain ⟨x, h1, _⟩ := hc o cs[o] (List.getElem?_eq_getElem hlt)
        have := (Array.getElem?_eq_some_iff.1 h1).1
        exact ⟨v', by simp [Array.getElem?_setIfInBounds, this], hv⟩
      · cases hj
    · rename_i e
      obtain ⟨x, h1, h2⟩ := hc j u hj
      exact ⟨x, by rw [Array.getElem?_setIfInBounds, if_neg (by omega)]; exact h1, h2⟩

theorem setAll_length : ∀ (l : List Value) (cs : List Value) (o : Nat), (setAll cs o l).length = cs.length
  | [], _, _ => rfl
  | v :: l, cs, o => by simp [setAll, setAll_length l]

structure Wrote (w w' : World) (r : Nat) (c : Array Value) (e : TypeId) (f : Nat × Nat) : Prop where
  os : w'.os = w.os
  tape : w'.tape = w.tape
  output : w'.output = w.output
  size : w'.heap.size = w.heap.size
  other : ∀ i, i ≠ r → w'.heap[i]? = w.heap[i]?
  here : w'.heap[r]? = some (.cells c e f)

theorem Wrote.below {w w' : World} {r : Nat} {c : Array Value} {e : TypeId} {f : Nat × Nat} (h : Wrote w w' r c e f) {B : Nat} (hB : B ≤ r) : Below B w w' :=
  ⟨h.os, h.tape, h.output, Nat.le_of_eq h.size.symm, fun k hk => h.other k (by omega)⟩

theorem run_store1 (w : World) (r o : Nat) (c : Array Value) (e : TypeId) (f : Nat × Nat) (hw : w.heap[r]? = some (.cells c e f)) (hf : f.1 = f.2 ∨ c.size ≤ f.1) (ho : o < c.size)
    (v : Value) (hv : flat v = true) : (store ⟨r, o, none⟩ v).run P w = .ok () (w.setCell ⟨r, o, none⟩ v) ∧ Wrote w (w.setCell ⟨r, o, none⟩ v) r (c.setIfInBounds o v) e f := by
  have hc : w.cell? ⟨r, o, none⟩ = some c[o] := by simp [World.cell?, hw, ho]
  have hfz : w.frozen? ⟨r, o, none⟩ = false := by
    obtain ⟨lo, hi⟩ := f
    simp only [World.frozen?, hw]
    simp only at hf
    rw [Bool.and_eq_false_iff]
    simp only [decide_eq_false_iff_not]
    omega
  constructor
  · cases v <;> simp only [flat] at hv <;> first | (cases hv; done) | simp [store, Sem.run, hc, hfz]
  · refine ⟨rfl, rfl, rfl, by simp [World.setCell], ?_, ?_⟩
    · intro i hi
      simp only [World.setCell, Array.getElem?_modify]
      rw [if_neg (fun e => hi e.symm)]
    · simp only [World.setCell, Array.getElem?_modify, if_true, hw, Option.map_some]
      simp

theorem run_storeCells (r p : Nat) : ∀ (vs : List Value) (i : Nat) (w : World) (c : Array Value) (e : TypeId) (f : Nat × Nat), w.heap[r]? = some (.cells c e f) → (f.1 = f.2 ∨ c.size ≤ f.1) →
    (∀ j, j < vs.length → p + i + j < c.size) → (∀ v ∈ vs, flat v = true) →
    ∃ w', (storeCells ⟨r, p, none⟩ vs i).run P w = .ok () w' ∧ Wrote w w' r (putArr c (p + i) vs) e f
  | [], i, w, c, e, f, hw, hf, hs, hv => ⟨w, by simp [storeCells], ⟨rfl, rfl, rfl, rfl, fun _ _ => rfl, hw⟩⟩
  | v :: vs, i, w, c, e, f, hw, hf, hs, hv => by
    obtain ⟨k1, k2⟩ := run_store1 (P := P) w r (p + i) c e f hw hf (by simpa using hs 0 (by simp)) v (hv v (by simp))
    obtain ⟨w', k3, k4⟩ := run_storeCells r p vs (i + 1) _ _ e f k2.here (by simpa using hf) (fun j hj => by
      have := hs (j + 1) (by simpa using hj)
      simp only [Array.size_setIfInBounds]; omega) (fun u hu => hv u (by simp [hu]))
    refine ⟨w', ?_, ?_⟩
    · simp only [storeCells, Sem.run_bind, Addr.add_lit, k1, Result.andThen_ok, k3]
    · refine ⟨k4.os.trans k2.os, k4.tape.trans k2.tape, k4.output.trans k2.output, k4.size.trans k2.size, fun i hi => (k4.other i hi).trans (k2.other i hi), ?_⟩
      rw [k4.here]; rfl

theorem allCell_flat : ∀ {l l' : List Value}, VRs ρ l l' → allCell l = true → ∀ v ∈ l', flat v = true
  | _, _, .nil, _, v, hv => by simp at hv
  | _, _, .cons x x' l l' hx hl, hc, v, hv => by
    simp only [allCell, List.all_cons, Bool.and_eq_true] at hc
    rcases List.mem_cons.1 hv with rfl | hv
    · exact flat_of hx hc.1
    · exact allCell_flat hl (by simpa [allCell] using hc.2) v hv

/-- a stretch of a live block is written -/
theorem write_sound (R : HR P B ρ h w.heap) {b : Nat} {cs : List Value} {e : TypeId} {own : Nat × Nat} (g : h.get b = some (.cells cs e own)) {r d : Nat} (hb : ρ[b]? = some (some (r, d)))
    {vs vs' : List Value} (hv : VRs ρ vs vs') (hc : allCell vs = true) (o : Nat) (hlen : o + vs.length ≤ cs.length) (fs : List AF) (hfree : freeOf b fs = true) :
    ∃ w', (storeCells ⟨r, d + o, none⟩ vs').run P w = .ok () w' ∧ Eff P B ρ h w fs ρ (h.set b (.cells (setAll cs o vs) e own)) w' := by
  obtain ⟨c, f, hw, hf, hh⟩ := R.cellsOf g hb
  obtain ⟨w', k1, k2⟩ := run_storeCells (P := P) r (d + o) vs' 0 w c e f hw hf (fun j hj => by
    rw [← hv.length] at hj
    obtain ⟨x, h1, _⟩ := hh (o + j) cs[o + j] (List.getElem?_eq_getElem (by omega))
    have := (Array.getElem?_eq_some_iff.1 h1).1
    omega) (allCell_flat hv hc)
  refine ⟨w', k1, .refl _, ?_, k2.below (R.low b _ r d g rfl hb), fun _ h => h, ?_, Nat.le_refl _⟩
  · refine R.set b r d hb _ _ g rfl rfl w'.heap k2.size k2.other ?_ (by intro h; cases h) ?_
    · rw [k2.here]
      exact .cells _ _ _ _ _ _ (by rw [putArr_size]; exact hf) (R.zeroAt g hb) (setAll_rel hv o hh)
    · intro cs' e' own' hq
      cases hq
      refine ⟨⟨_, _, rfl⟩, fun c0 f0 hc0 => ?_⟩
      rw [hw] at hc0
      cases hc0
      exact ⟨_, _, k2.here, putArr_size _ _ _⟩
  · intro b' o' hfp hg
    have : b' ≠ b := by rintro rfl; exact freeOf_spec hfree hfp
    rw [H.get_set_ne this]; exact hg

theorem freeze_wrote {w : World} {r : Nat} {c : Array Value} {e : TypeId} {f : Nat × Nat} (hw : w.heap[r]? = some (.cells c e f)) (hf : f.1 = f.2 ∨ c.size ≤ f.1) :
    ∃ f', (f'.1 = f'.2 ∨ c.size ≤ f'.1) ∧ Wrote w (w.freeze ⟨r, c.size, none⟩ 1) r c e f' := by
  obtain ⟨lo, hi⟩ := f
  refine ⟨if lo == hi then (c.size, c.size + 1) else (min lo c.size, max hi (c.size + 1)), ?_, rfl, rfl, rfl, by simp [World.freeze], ?_, ?_⟩
  · simp only at hf
    by_cases h : lo = hi
    · subst h; right; simp
    · right
      simp [h]
      omega
  · intro i hi'
    simp only [World.freeze, Nat.succ_ne_zero, if_false, Array.getElem?_modify]
    rw [if_neg (fun e => hi' e.symm)]
  · simp only [World.freeze, Nat.succ_ne_zero, if_false, Array.getElem?_modify, if_true, hw, Option.map_some]

theorem markA_sound (R : HR P B ρ h w.heap) {fs : List AF} {src dst : TypeId} {v v' : Value} {h' : H} (e : markA P h fs src dst v = some h') (hv : VR ρ v v') :
    ∃ w', (convert src dst v').run P w = .ok v' w' ∧ Eff P B ρ h w fs ρ h' w' := by
  unfold markA at e
  split at e <;> try (cases e; done)
  rename_i b o n k
  cases hc : Nat.beq src dst && freeOf b fs <;> rw [hc] at e <;> simp only [cond_true, cond_false] at e
  case false => cases e
  simp only [Bool.and_eq_true] at hc
  obtain ⟨c1, c2⟩ := hc
  have := Nat.eq_of_beq_eq_true c1
  subst this
  split at e <;> try (cases e; done)
  rename_i el hu
  split at e <;> cases e
  rename_i cs e' own hel g
  have fin : ∀ (r d p n' c' : Nat), ρ[b]? = some (some (r, d)) → ∃ w', (convert src src (.slice (some ⟨r, p, none⟩) n' c')).run P w = .ok (.slice (some ⟨r, p, none⟩) n' c') w' ∧ Eff P B ρ h w fs ρ (h.set b (.cells cs e' own)) w' := by
    intro r d p n' c' hb
    obtain ⟨c, f, hw, hf, hh⟩ := R.cellsOf g hb
    obtain ⟨f', hf', k2⟩ := freeze_wrote hw hf
    refine ⟨w.freeze ⟨r, c.size, none⟩ 1, ?_, .refl _, ?_, k2.below (R.low b _ r d g rfl hb), fun _ h => h, ?_, Nat.le_refl _⟩
    · have hs : w.shape? r = some (e', c.size) := by simp [World.shape?, hw]
      simp only [convert, Sem.run_bind, run_underlying hu, run_underlying hel, Result.andThen_ok, beq_self_eq_true, markStringish, shape, freeze, Sem.run, hs, Sem.run_pure]
      try rfl
    · refine R.set b r d hb _ _ g rfl rfl _ k2.size k2.other ?_ (by intro h; cases h) ?_
      · rw [k2.here]
        exact .cells _ _ _ _ _ _ hf' (R.zeroAt g hb) hh
      · intro cs' e' own' hq
        cases hq
        refine ⟨⟨_, _, rfl⟩, fun c0 f0 hc0 => ?_⟩
        rw [hw] at hc0
        cases hc0
        exact ⟨_, _, k2.here, rfl⟩
    · intro b' o' hfp hg
      have : b' ≠ b := by rintro rfl; exact freeOf_spec c2 hfp
      rw [H.get_set_ne this]; exact hg
  cases hv with
  | slice _ _ r d _ _ hb hc' => exact fin r d _ _ _ hb
  | sliceU _ _ r d _ c' p hb hn hp => exact fin r d _ _ _ hb
  | sliceW _ r d _ k hb hb' hn => exact fin r d _ _ _ hb
  | sliceK _ _ r d _ c' k p hb hn hk hp => exact fin r d _ _ _ hb

theorem storeA_sound (R : HR P B ρ h w.heap) {fs : List AF} {t : TypeId} {a a' v v' : Value} {h' : H} (e : storeA P h fs t a v = some h') (ha : VR ρ a a') (hv : VR ρ v v') :
    ∃ w', (Instr.storeAt t a' v').run P w = .ok () w' ∧ Eff P B ρ h w fs ρ h' w' := by
  unfold storeA at e
  split at e
  · rename_i b o
    cases g : h.get b with
    | none => simp [g] at e
    | some ob =>
      cases ob <;> simp only [g] at e <;> try (cases e; done)
      rename_i cs el own
      cases hs : sizeA P t with
      | none => simp [hs] at e
      | some n =>
        simp only [hs] at e
        cases hc : Nat.beq v.cells.toList.length n && allCell v.cells.toList && Nat.ble (o + n) cs.length && freeOf b fs <;> rw [hc] at e <;> simp only [cond_true, cond_false] at e <;> cases e
        simp only [Bool.and_eq_true, Nat.ble_eq] at hc
        obtain ⟨⟨⟨c1, c2⟩, c3⟩, c4⟩ := hc
        have c1 := Nat.eq_of_beq_eq_true c1
        cases ha with
        | ptr _ _ r d hb =>
          have hvv := cells_rel hv (notBad_of hv c2)
          obtain ⟨w', k1, k2⟩ := write_sound R g hb hvv c2 o (by omega) fs c4
          refine ⟨w', ?_, k2⟩
          have hn : v'.cells.size = n := by rw [← c1]; simpa using hvv.length.symm
          simp [Instr.storeAt, Instr.sureAddr, storeVar, sizeA_some hs, hn, k1]
  · cases e

end Go.Sim

/- The abstract machine: unsafe pointers, as strings.Builder uses them. -/
namespace Go.Sim
open Go.RowKit
set_option linter.unusedVariables false
set_option linter.unusedSimpArgs false
set_option linter.unusedSectionVars false
variable [Ev]

variable {P : Program} {B : Nat} {ρ : Map} {h : H} {w : World}

theorem shape_cells {w : World} {r : Nat} {c : Array Value} {e : TypeId} {f : Nat × Nat} (hw : w.heap[r]? = some (.cells c e f)) : (shape r).run P w = .ok (some (e, c.size)) w := by
  simp [shape, Sem.run, World.shape?, hw]

theorem viewAt_cells {w : World} {r : Nat} {c : Array Value} {e : TypeId} {f : Nat × Nat} (hw : w.heap[r]? = some (.cells c e f)) : (viewAt r).run P w = .ok none w := by
  simp [viewAt, shape_cells hw]

theorem seenAt_cells {w : World} {r o : Nat} {c : Array Value} {e : TypeId} {f : Nat × Nat} (hw : w.heap[r]? = some (.cells c e f)) : (Conv.seenAt ⟨r, o, none⟩).run P w = .ok ⟨r, o, none⟩ w := by
  simp [Conv.seenAt, viewAt_cells hw]

theorem sameLayout_self (n : Nat) (e : TypeId) : sameLayout P (n + 1) e e = true := by simp [sameLayout]

theorem variablesAt_cells {w : World} {r o n : Nat} {c : Array Value} {e : TypeId} {f : Nat × Nat} (hw : w.heap[r]? = some (.cells c e f)) (hd : 0 < P.depth) (hs : 0 < P.cellsOf e) (hm : o % P.cellsOf e = 0)
    (hle : o / P.cellsOf e + n ≤ c.size / P.cellsOf e) : (variablesAt ⟨r, o, none⟩ e n).run P w = .ok true w := by
  obtain ⟨k, hk⟩ : ∃ k, P.depth = k + 1 := ⟨P.depth - 1, by omega⟩
  have h1 : liesAt P P.depth e (c.size / P.cellsOf e) o e n = true := by
    rw [hk]
    unfold liesAt
    rw [Bool.or_eq_true]
    left
    rw [hk]
    unfold rowAt
    have hs' : P.cellsOf e ≠ 0 := by omega
    simp only [hs', if_false]
    rw [Bool.or_eq_true]
    left
    rw [sameLayout_self]
    simp [hm, hle]
  simp only [variablesAt, Sem.run_bind, run_program, shape_cells hw, Result.andThen_ok, Sem.run_pure, h1]

theorem cellsIn_cells {w : World} {r : Nat} {c : Array Value} {e : TypeId} {f : Nat × Nat} (hw : w.heap[r]? = some (.cells c e f)) : (cellsIn r).run P w = .ok (some c.size) w := by
  simp [cellsIn, shape_cells hw]

theorem uconvA_sound (R : HR P B ρ h w.heap) {src dst : TypeId} {x x' v : Value} (e : uconvA P h src dst x = some v) (hx : VR ρ x x') : (convert src dst x').run P w = .ok x' w ∧ VR ρ v x' := by
  unfold uconvA at e
  split at e
  · rename_i t b o h1 h2
    split at e <;> try (cases e; done)
    rename_i m cs el own hsz g
    cases hc : Nat.blt o cs.length <;> rw [hc] at e <;> simp only [cond_true, cond_false] at e <;> cases e
    have hlt : o < cs.length := Nat.le_of_ble_eq_true hc
    cases hx with
    | ptr _ _ r d hb =>
      obtain ⟨c, f, hw, hf, hh⟩ := R.cellsOf g hb
      obtain ⟨u, hu, _⟩ := hh o cs[o] (List.getElem?_eq_getElem hlt)
      have hlt' : d + o < c.size := (Array.getElem?_eq_some_iff.1 hu).1
      refine ⟨?_, .ptr _ _ _ _ hb⟩
      have hn : ¬ (d + o ≥ c.size) := by omega
      simp only [convert, Sem.run_bind, run_underlying h1, run_underlying h2, Result.andThen_ok, Conv.unsafePointer, seenAt_cells hw, cellsIn_cells hw, sizeA_some hsz, Sem.run_pure]
      simp [hn]
  · rename_i u b o h1 h2
    split at e <;> try (cases e; done)
    rename_i cs el own g
    cases hc : (!(Nat.beq own.1 7777777) && Nat.beq o 0 && Nat.beq el u && Nat.blt 0 (P.cellsOf el) && Nat.ble (P.cellsOf el) cs.length && Nat.blt 0 P.depth) <;> rw [hc] at e <;> simp only [cond_true, cond_false] at e <;> cases e
    simp only [Bool.and_eq_true, Bool.not_eq_true'] at hc
    obtain ⟨⟨⟨⟨⟨c1, c2⟩, c3⟩, c4⟩, c5⟩, c6⟩ := hc
    have c2 := Nat.eq_of_beq_eq_true c2
    have c3 := Nat.eq_of_beq_eq_true c3
    have c4 : 0 < P.cellsOf el := Nat.le_of_ble_eq_true c4
    have c5 := Nat.le_of_ble_eq_true c5
    have c6 : 0 < P.depth := Nat.le_of_ble_eq_true c6
    subst c2
    subst c3
    cases hx with
    | ptr _ _ r d hb =>
      obtain ⟨c, f, hw, hf, hh⟩ := R.cellsOf g hb
      have hd : d = 0 := R.zeroAt g hb (fun e => by rw [e] at c1; cases c1)
      subst hd
      obtain ⟨y, hy, _⟩ := hh (P.cellsOf el - 1) cs[P.cellsOf el - 1] (List.getElem?_eq_getElem (by omega))
      have hlt' : 0 + (P.cellsOf el - 1) < c.size := (Array.getElem?_eq_some_iff.1 hy).1
      have hva := variablesAt_cells (P := P) (o := 0 + 0) (n := 1) hw c6 c4 (by simp) (by
        have : 1 ≤ c.size / P.cellsOf el := (Nat.le_div_iff_mul_le c4).2 (by omega)
        simpa using this)
      refine ⟨?_, .ptr _ _ _ _ hb⟩
      simp only [convert, Sem.run_bind, run_underlying h1, run_underlying h2, Result.andThen_ok, Conv.unsafePointer, seenAt_cells hw, Sem.run_pure]
      cases hz : P.info? el with
      | none =>
        exfalso
        unfold Program.cellsOf at c4
        rw [hz] at c4
        simp at c4
      | some i =>
        have hsz : sizeA P el = some i.size := by simp [sizeA, hz]
        simp only [sizeA_some hsz, Result.andThen_ok]
        by_cases h0 : i.size = 0
        · have hva' : (variablesAt ⟨r, 0, none⟩ el 1).run P w = .ok true w := by simpa using hva
          simp [h0, hva']
        · simp [h0, hva]
  · cases e

theorem run_loadBytes : ∀ (ns : List Int) (r p : Nat) (w : World) (acc : ByteArray), (∀ (j : Nat) (v : Value), (ns.map (Value.int .u8))[j]? = some v → w.cell? ⟨r, p + j, none⟩ = some v) →
    (loadBytes ⟨r, p, none⟩ acc ns.length).run P w = .ok (ns.foldl (fun a n => a.push (UInt8.ofNat n.toNat)) acc) w
  | [], r, p, w, acc, _ => rfl
  | n :: ns, r, p, w, acc, hc => by
    have h0 := hc 0 (.int .u8 n) rfl
    rw [Nat.add_zero] at h0
    have ih := run_loadBytes ns r (p + 1) w (acc.push (UInt8.ofNat n.toNat)) (fun j v hj => by
      have := hc (j + 1) v (by simpa using hj)
      rwa [show p + (j + 1) = p + 1 + j from by omega] at this)
    have hl : (load ⟨r, p, none⟩).run P w = .ok (.int .u8 n) w := by simp [load, Sem.run, h0]
    simp only [List.length_cons, loadBytes, Sem.run_bind, hl, Result.andThen_ok, List.foldl_cons]
    exact ih

theorem ustrA_sound (R : HR P B ρ h w.heap) {fs : List AF} {ts : Array TypeId} {ty : TypeId} {p p' n n' v : Value} {h' : H} (e : ustrA P h fs ts.toList p n = some (v, h')) (hp : VR ρ p p') (hn : VR ρ n n') :
    ∃ v' w', (Builtin.unsafeString_ ts ty #[p', n']).run P w = .ok v' w' ∧ Eff P B ρ h w fs ρ h' w' ∧ VR ρ v v' := by
  unfold ustrA at e
  split at e <;> try (cases e; done)
  rename_i t trest m hts hnat
  obtain ⟨k, rfl⟩ := natOf_rel hnat hn
  have ht0 : ts[0]? = some t := by rw [← Array.getElem?_toList, hts]; rfl
  have hm0 : ¬ ((m : Int) < 0) := by omega
  split at e
  · rename_i el b o hu
    split at e <;> try (cases e; done)
    rename_i cs e' own hel g
    cases hc : (Nat.ble m 16777216 && Nat.blt 0 m && Nat.beq e' el && Nat.beq (P.cellsOf el) 1 && Nat.blt 0 P.depth && freeOf b fs) <;> rw [hc] at e <;> simp only [cond_true, cond_false] at e
    case false => cases e
    simp only [Bool.and_eq_true] at hc
    obtain ⟨⟨⟨⟨⟨c1, c2⟩, c3⟩, c4⟩, c5⟩, c6⟩ := hc
    have c1 := Nat.le_of_ble_eq_true c1
    have c2 : 0 < m := Nat.le_of_ble_eq_true c2
    have c3 := Nat.eq_of_beq_eq_true c3
    have c4 := Nat.eq_of_beq_eq_true c4
    have c5 : 0 < P.depth := Nat.le_of_ble_eq_true c5
    subst c3
    cases hq : takeX m (cs.drop o) with
    | none => rw [hq] at e; cases e
    | some q =>
      rw [hq] at e
      dsimp only at e
      cases hbq : bytesOf q with
      | none => rw [hbq] at e; cases e
      | some l =>
        rw [hbq] at e
        cases e
        cases hp with
        | ptr _ _ r d hb =>
          obtain ⟨c, f, hw, hf, hh⟩ := R.cellsOf g hb
          obtain ⟨L, hL, hV, hcell⟩ := R.row (by rw [g]; rfl) hb o m q hq
          obtain ⟨ns, rfl, hl⟩ := bytesOf_rel hbq hV
          have hlen : ns.length = m := by simpa using hL
          have hlast := hcell (m - 1) ((ns.map (Value.int .u8))[m - 1]'(by simp; omega)) (List.getElem?_eq_getElem (by simp; omega))
          have hbound : d + o + (m - 1) < c.size := by
            simp only [World.cell?, hw] at hlast
            exact (Array.getElem?_eq_some_iff.1 hlast).1
          have hva := variablesAt_cells (P := P) (o := d + o) (n := m) hw c5 (by omega) (by rw [c4]; exact Nat.mod_one _) (by rw [c4]; simp; omega)
          have hlb := run_loadBytes (P := P) ns r (d + o) w .empty hcell
          rw [hlen] at hlb
          have hfr : ∃ f', (w.freeze ⟨r, d + o, none⟩ m).heap[r]? = some (.cells c e' f') := by
            obtain ⟨lo, hi⟩ := f
            refine ⟨if lo == hi then (d + o, d + o + m) else (min lo (d + o), max hi (d + o + m)), ?_⟩
            have hm : m ≠ 0 := by omega
            simp only [World.freeze, hm, if_false, Array.getElem?_modify, if_true, hw, Option.map_some]
          obtain ⟨f', hfr⟩ := hfr
          have hm : m ≠ 0 := by omega
          have hsz : (w.freeze ⟨r, d + o, none⟩ m).heap.size = w.heap.size := by simp [World.freeze, hm]
          have hoth : ∀ i, i ≠ r → (w.freeze ⟨r, d + o, none⟩ m).heap[i]? = w.heap[i]? := by
            intro i hi
            simp only [World.freeze, hm, if_false, Array.getElem?_modify]
            rw [if_neg (fun e => hi e.symm)]
          refine ⟨.string ⟨⟨l⟩⟩, w.freeze ⟨r, d + o, none⟩ m, ?_, ⟨.refl _, ?_, ?_, fun _ h => h, ?_, Nat.le_refl _⟩, .string _⟩
          · have hbig : ¬ ((m : Int) > IntKind.i64.max) := by
              have : IntKind.i64.max = 9223372036854775807 := by decide
              rw [this]; omega
            have hi0 : ¬ ((m : Int) = 0) := by omega
            refine (congrArg (fun s => Sem.run P s w) (show Builtin.unsafeString_ ts ty #[.pointer (some ⟨r, d + o, none⟩), .int k (m : Int)] = bind (asInt (.int k (m : Int))) _ from rfl)).trans ?_
            simp only [asInt, asIntOf, ht0, Sem.run_bind, Sem.run_pure, Result.andThen_ok, hm0, hbig, hi0, if_false, elemOf, run_underlying hu, Int.toNat_natCast, hva, if_true, hlb, push_fold, hl, freeze, Sem.run]
            rfl
          · refine R.set b r d hb _ _ g rfl rfl _ hsz hoth ?_ (by intro h; cases h) (by intro _ _ _ h; cases h)
            rw [hfr]
            exact .fixed _ _ _ _ _ hh
          · have hBr := R.low b _ r d g rfl hb
            refine ⟨?_, ?_, ?_, Nat.le_of_eq hsz.symm, fun k hk => hoth k (by omega)⟩ <;> simp [World.freeze, hm]
          · intro b' o' hfp hg
            have : b' ≠ b := by rintro rfl; exact freeOf_spec c6 hfp
            rw [H.get_set_ne this]; exact hg
  · rename_i el hu
    cases hc : Nat.beq m 0 <;> rw [hc] at e <;> simp only [cond_true, cond_false] at e <;> cases e
    have := Nat.eq_of_beq_eq_true hc
    subst this
    cases hp
    refine ⟨.string .empty, w, ?_, Eff.refl R fs, .string _⟩
    refine (congrArg (fun s => Sem.run P s w) (show Builtin.unsafeString_ ts ty #[.pointer none, .int k ((0 : Nat) : Int)] = bind (asInt (.int k ((0 : Nat) : Int))) _ from rfl)).trans ?_
    simp only [asInt, asIntOf, ht0, Sem.run_bind, Sem.run_pure, Result.andThen_ok]
    rfl
  · cases e
end Go.Sim
