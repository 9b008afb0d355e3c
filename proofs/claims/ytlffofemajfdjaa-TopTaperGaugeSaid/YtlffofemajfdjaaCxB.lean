/- The evaluator: one operation, a region, a statement, a call. -/
import Derived.Test.YtlffofemajfdjaaCxA
set_option linter.unusedSimpArgs false
set_option linter.unusedVariables false
namespace Go.Proofs.Ytlffofemajfdjaa.Cx
open Go Go.RowKit
noncomputable section --PROVE

/-- What is known of a type. -/
structure TyR where
  desc : TypeDesc
  size : Nat
  bytes : Nat
  zero : List CV
  agg : Bool

/-- A block: its cells, the cells of an element of slices of it, whether it may still be read. -/
structure Blk where
  cells : List CV
  esz : Nat
  live : Bool

structure St where
  heap : Tr Blk
  next : Nat
  orc : List Nat
  pc : List PC
--RUN   smp : Option Env := none

structure Ctx where
  ty : Nat → Option TyR
  fn : Nat → Option Func
  /-- of types of structs and arrays whose == compares cell by cell: what their cells are, integers of a kind or bools -/
  eq : Nat → Option (List (Option IntKind))
  /-- calls that are known: what they yield, and the memory behind them -/
  memo : Nat → List CV → St → Option (CV × St)

/-- What an operation yields, the memory behind it, and the blocks that it read and wrote. -/
structure OR where
  val : CV
  s : St
  R : List Nat
  W : List Nat

def undefC : CV := .tup []

def rd (T : Tr CV) (t : Nat) : CV := match T.get t with | some c => c | none => undefC

def ev (T : Tr CV) : Operand → Option CV
  | .tmp t => some (rd T t)
  | .const v => CV.ofVal v
  | .global _ => none
  | .func f => some (.fn (.func f) [] [])

def evs (T : Tr CV) : List Operand → Option (List CV)
  | [] => some []
  | x :: l => match ev T x, evs T l with
    | some c, some m => some (c :: m)
    | _, _ => none

def St.ask (s : St) (b : BE) : Option (Bool × St) :=
  match PC.find b s.pc with
  | some v => some (v, s)
  | none => match s.orc with
--RUN     | [] => match s.smp with | some ρ => some (b.den ρ, { s with pc := .b b (b.den ρ) :: s.pc }) | none => none
    | [] => none --PROVE
    | n :: t => some (Nat.beq n 1, { s with orc := t, pc := .b b (Nat.beq n 1) :: s.pc })

def St.decide (s : St) : BE → Option (Bool × St)
  | .c b => some (b, s)
  | .not b => match s.ask b with | some (v, s) => some (!v, s) | none => none
  | b => s.ask b

def St.conc (s : St) : IE → Option (Int × St)
  | .c n => some (n, s)
  | e => match PC.findN e s.pc with
    | some n => some (n, s)
    | none => match s.orc with
--RUN       | [] => match s.smp with | some ρ => if (0:Int) ≤ e.den ρ then some (e.den ρ, { s with pc := .b (.cmp .eql e (.c (e.den ρ))) true :: s.pc }) else none | none => none
      | [] => none --PROVE
      | n :: t => some ((n : Int), { s with orc := t, pc := .b (.cmp .eql e (.c n)) true :: s.pc })

def St.ld (s : St) (b o n : Nat) : Option (List CV) :=
  match s.heap.get b with
  | some k => bif k.live && Nat.ble (o + n) k.cells.length && Nat.blt b s.next then some ((k.cells.drop o).take n) else none
  | none => none

def St.st (s : St) (b o : Nat) (l : List CV) : Option St :=
  match s.heap.get b with
  | some k => bif k.live && Nat.ble (o + l.length) k.cells.length && l.all CV.flat && Nat.blt b s.next then some { s with heap := s.heap.set b { k with cells := k.cells.take o ++ l ++ k.cells.drop (o + l.length) } } else none
  | none => none

def St.kill (s : St) (b : Nat) : St :=
  match s.heap.get b with
  | some k => { s with heap := s.heap.set b { k with live := false } }
  | none => s

def St.new (s : St) (l : List CV) (esz : Nat) : St := { s with heap := s.heap.set s.next ⟨l, esz, true⟩, next := s.next + 1 }

def CV.fit (c : CV) : Bool := match c with | .agg _ => true | c => c.flat

def fillC (place : Nat → Option (Nat × Nat)) : List CV → List (Nat × CV) → Option (List CV)
  | cells, [] => some cells
  | cells, (i, v) :: rest =>
    match place i with
    | none => none
    | some (off, size) =>
      bif Nat.beq v.cells.length size && Nat.ble (off + size) cells.length && v.fit then fillC place (cells.take off ++ v.cells ++ cells.drop (off + size)) rest else none

def rep : Nat → List CV → List CV
  | 0, _ => []
  | n + 1, l => l ++ rep n l

/-- The places of a struct's fields. -/
def placesC (C : Ctx) : List Field → Option (List (Nat × Nat))
  | [] => some []
  | f :: l => match C.ty f.type, placesC C l with
    | some q, some m => some ((f.offset, q.size) :: m)
    | _, _ => none

def evps (T : Tr CV) : List (Nat × Operand) → Option (List (Nat × CV))
  | [] => some []
  | (i, x) :: l => match ev T x, evps T l with
    | some c, some m => some ((i, c) :: m)
    | _, _ => none

/-- Cells of these kinds. -/
def shapeC : List (Option IntKind) → List CV → Bool
  | [], [] => true
  | none :: ks, .bool _ :: l => shapeC ks l
  | some k :: ks, .int k' _ :: l => decide (k = k') && shapeC ks l
  | _, _ => false

def eqCells (s : St) : List CV → List CV → Option (Bool × St)
  | .int _ a :: l, .int _ b :: m =>
    match s.decide (BE.mk .eql a b) with
    | some (true, s) => eqCells s l m
    | some (false, s) => some (false, s)
    | none => none
  | .bool a :: l, .bool b :: m =>
    match s.decide a with
    | some (x, s) => match s.decide b with
      | some (y, s) => bif x == y then eqCells s l m else some (false, s)
      | none => none
    | none => none
  | _, _ => some (true, s)

/-- What an append appends: its cells, how many elements, the blocks read. -/
def srcE (q : TyR) (s : St) (d : TypeDesc) (y : CV) : Option (List CV × Nat × List Nat) :=
  match d, y with
  | .int _, .int _ (.c n) => bif decide (0 ≤ n) && decide (n ≤ 10000) then some (rep n.toNat q.zero, n.toNat, []) else none
  | .slice _, .slc none _ _ => some ([], 0, [])
  | .slice _, .emp => some ([], 0, [])
  | .slice _, .slc (some (b, o)) n _ => match s.ld b o (n * q.size) with
    | some l => bif Nat.ble n 10000 then some (l, n, [b]) else none
    | none => none
  | _, _ => none

/-- An append of such cells. -/
def appE (q : TyR) (s : St) (x : CV) (l : List CV) (n : Nat) (R : List Nat) : Option OR :=
  match x with
  | .slc none _ _ => bif Nat.beq n 0 then some ⟨x, s, R, []⟩ else some ⟨.slc (some (s.next, 0)) n n, s.new l q.size, R, []⟩
  | .emp => bif Nat.beq n 0 then some ⟨x, s, R, []⟩ else none
  | .slc (some (b, o)) m c =>
    bif Nat.beq n 0 then (bif Nat.ble m c then some ⟨x, s, R, []⟩ else none) else
    match s.ld b o (m * q.size), s.heap.get b with
    | some h, some k => bif Nat.beq k.esz q.size && Nat.ble (m + n) 10000 && l.all CV.flat then some ⟨.slc (some (s.next, 0)) (m + n) (m + n), (s.kill b).new (h ++ l) q.size, b :: R, [b]⟩ else none
    | _, _ => none
  | _ => none

abbrev okE (s : St) (c : CV) : Option OR := some ⟨c, s, [], []⟩

def opMove (C : Ctx) (T : Tr CV) (s : St) (x : Operand) : Option OR :=
  match ev T x with | some c => okE s c | none => none

def opPick (C : Ctx) (T : Tr CV) (s : St) (c a b : Operand) : Option OR :=
  match ev T c, ev T a, ev T b with
  | some (.bool e), some x, some y => match s.decide e with | some (t, s) => some ⟨bif t then x else y, s, [], []⟩ | none => none
  | _, _, _ => none

def opAlloc (C : Ctx) (T : Tr CV) (s : St) (t : TypeId) : Option OR :=
  match C.ty t with | some r => some ⟨.ptr (some (s.next, 0)), s.new r.zero 0, [], []⟩ | none => none

def opBox (C : Ctx) (T : Tr CV) (s : St) (t : TypeId) (x : Operand) : Option OR :=
  match ev T x with | some c => bif c.fit then some ⟨.ptr (some (s.next, 0)), s.new c.cells 0, [], []⟩ else none | none => none

def opBuild (C : Ctx) (T : Tr CV) (s : St) (t : TypeId) (parts : Array (Nat × Operand)) : Option OR :=
  match C.ty t, evps T parts.toList with
  | some r, some ps =>
    match r.desc with
    | .struct fs => match placesC C fs.toList with
      | some pl => match fillC (fun i => pl[i]?) r.zero ps with | some l => okE s (.agg l) | none => none
      | none => none
    | .array n e => match C.ty e with
      | some q => match fillC (fun i => some (i * q.size, q.size)) r.zero ps with | some l => okE s (.agg l) | none => none
      | none => none
    | _ => none
  | _, _ => none

def opBuildSlice (C : Ctx) (T : Tr CV) (s : St) (t : TypeId) (len : Nat) (parts : Array (Nat × Operand)) : Option OR :=
  match C.ty t, evps T parts.toList with
  | some r, some ps =>
    match r.desc with
    | .slice e => match C.ty e with
      | some q =>
        bif Nat.ble 1 q.size && Nat.ble (len * q.size) 10000 then
          match fillC (fun i => some (i * q.size, q.size)) (rep len q.zero) ps with
          | some l => some ⟨.slc (some (s.next, 0)) len len, s.new l q.size, [], []⟩
          | none => none
        else none
      | none => none
    | _ => none
  | _, _ => none

def opLoad (C : Ctx) (T : Tr CV) (s : St) (t : TypeId) (x : Operand) : Option OR :=
  match C.ty t, ev T x with
  | some r, some (.ptr (some (b, o))) =>
    bif r.agg then match s.ld b o r.size with | some l => some ⟨.agg l, s, [b], []⟩ | none => none
    else match s.ld b o 1 with | some [c] => some ⟨c, s, [b], []⟩ | _ => none
  | _, _ => none

def opStore (C : Ctx) (T : Tr CV) (s : St) (t : TypeId) (x v : Operand) : Option OR :=
  match C.ty t, ev T x, ev T v with
  | some r, some (.ptr (some (b, o))), some c =>
    bif c.fit && Nat.beq c.cells.length r.size then match s.st b o c.cells with | some s' => some ⟨undefC, s', [], [b]⟩ | none => none else none
  | _, _, _ => none

def opNil (C : Ctx) (T : Tr CV) (s : St) (x : Operand) : Option OR :=
  match ev T x with
  | some (.ptr (some a)) => okE s (.ptr (some a))
  | some (.fn (.func f) a b) => okE s (.fn (.func f) a b)
  | _ => none

def opBinInt (s : St) (op : BinOp) (k : IntKind) (a : IE) (k' : IntKind) (b : IE) : Option OR :=
  match op with
  | .shl | .shr => match BE.mk .geq b (.c 0) with
    | .c true => okE s (.int k (.mk (match op with | .shl => .shl | _ => .shr) k a b))
    | _ => none
  | _ =>
  bif decide (k = k') then
    match op with
    | .add => okE s (.int k (.mk .add k a b))
    | .sub => okE s (.int k (.mk .sub k a b))
    | .mul => okE s (.int k (.mk .mul k a b))
    | .and => okE s (.int k (.mk .and k a b))
    | .or => okE s (.int k (.mk .or k a b))
    | .xor => okE s (.int k (.mk .xor k a b))
    | .andNot => okE s (.int k (.mk .andNot k a b))
    | .quo => match s.decide (BE.mk .neq b (.c 0)) with | some (true, s) => some ⟨.int k (.mk .quo k a b), s, [], []⟩ | _ => none
    | .rem => match s.decide (BE.mk .neq b (.c 0)) with | some (true, s) => some ⟨.int k (.mk .rem k a b), s, [], []⟩ | _ => none
    | .eql => okE s (.bool (.mk .eql a b))
    | .neq => okE s (.bool (.mk .neq a b))
    | .lss => okE s (.bool (.mk .lss a b))
    | .leq => okE s (.bool (.mk .leq a b))
    | .gtr => okE s (.bool (.mk .gtr a b))
    | .geq => okE s (.bool (.mk .geq a b))
    | _ => none
  else none

def opBinBool (C : Ctx) (s : St) (op : BinOp) (t : TypeId) (a b : BE) : Option OR :=
  match C.ty t, op with
  | some r, .eql => match r.desc with
    | .bool => match s.decide a with
      | some (x, s1) => match s1.decide b with | some (y, s2) => some ⟨.bool (.c (x == y)), s2, [], []⟩ | none => none
      | _ => none
    | _ => none
  | some r, .neq => match r.desc with
    | .bool => match s.decide a with
      | some (x, s1) => match s1.decide b with | some (y, s2) => some ⟨.bool (.c (x != y)), s2, [], []⟩ | none => none
      | _ => none
    | _ => none
  | _, _ => none

def opBinAgg (C : Ctx) (s : St) (op : BinOp) (t : TypeId) (a b : List CV) : Option OR :=
  match C.eq t with
  | some ks =>
    bif shapeC ks a && shapeC ks b then
      match op, eqCells s a b with
      | .eql, some (v, s) => some ⟨.bool (.c v), s, [], []⟩
      | .neq, some (v, s) => some ⟨.bool (.c !v), s, [], []⟩
      | _, _ => none
    else none
  | none => none

def opBin (C : Ctx) (T : Tr CV) (s : St) (op : BinOp) (t : TypeId) (x y : Operand) : Option OR :=
  match ev T x, ev T y with
  | some (.int k a), some (.int k' b) => opBinInt s op k a k' b
  | some (.bool a), some (.bool b) => opBinBool C s op t a b
  | some (.agg a), some (.agg b) => opBinAgg C s op t a b
  | _, _ => none

def opUn (C : Ctx) (T : Tr CV) (s : St) (op : UnOp) (x : Operand) : Option OR :=
  match op, ev T x with
  | .neg, some (.int k a) => okE s (.int k (.mk .sub k (.c 0) a))
  | .not, some (.bool b) => okE s (.bool b.neg)
  | _, _ => none

def opConv (C : Ctx) (T : Tr CV) (s : St) (st dt : TypeId) (x : Operand) : Option OR :=
  match C.ty st, C.ty dt, ev T x with
  | some r, some q, some (.int _ a) => match q.desc with
    | .int k => okE s (.int k (.mk .conv k a (.c 0)))
    | _ => none
  | _, _, _ => none

def opFunc (C : Ctx) (T : Tr CV) (s : St) (f : Fn) (a b : Array Operand) : Option OR :=
  match evs T a.toList, evs T b.toList with
  | some x, some y => okE s (.fn f x y)
  | _, _ => none

def opMakeSlice (C : Ctx) (T : Tr CV) (s : St) (t : TypeId) (l c : Operand) : Option OR :=
  match C.ty t, ev T l, ev T c with
  | some r, some (.int _ (.c n)), some (.int _ (.c m)) =>
    match r.desc with
    | .slice e => match C.ty e with
      | some q => bif decide (0 ≤ n) && decide (n ≤ m) && decide (m ≤ 10000) && Nat.ble 1 q.size && Nat.ble q.bytes 100000 then some ⟨.slc (some (s.next, 0)) n.toNat m.toNat, s.new (rep m.toNat q.zero) q.size, [], []⟩ else none
      | none => none
    | _ => none
  | _, _, _ => none

def opSlice (C : Ctx) (T : Tr CV) (s : St) (t : TypeId) (x : Operand) (lo hi : Option Operand) : Option OR :=
  match C.ty t, ev T x with
  | some r, some (.slc a n c) =>
    match r.desc with
    | .slice e => match C.ty e with
      | some q =>
        let bound (x : Option Operand) (d : Nat) : Option Nat := match x with
          | none => some d
          | some x => match ev T x with
            | some (.int _ (.c m)) => bif decide (0 ≤ m) then some m.toNat else none
            | _ => none
        match bound lo 0, bound hi n with
        | some l, some h =>
          bif Nat.ble l h && Nat.ble h c then
            match a with
            | some (b, o) =>
              bif Nat.beq l 0 then okE s (.slc (some (b, o)) h c) else
              bif Nat.blt l c then
                match s.heap.get b with
                | some k => bif k.live && Nat.beq k.esz q.size && Nat.blt b s.next then some ⟨.slc (some (b, o + l * q.size)) (h - l) (c - l), s, [b], []⟩ else none
                | none => none
              else okE s .emp
            | none => okE s (.slc none 0 0)
          else none
        | _, _ => none
      | none => none
    | _ => none
  | _, _ => none

def opFieldAddr (C : Ctx) (T : Tr CV) (s : St) (t : TypeId) (x : Operand) (f : Nat) : Option OR :=
  match C.ty t, ev T x with
  | some r, some (.ptr (some (b, o))) =>
    match r.desc with
    | .struct fs => match fs[f]? with
      | some fd => match C.ty fd.type with
        | some q => bif Nat.beq q.size 0 then none else okE s (.ptr (some (b, o + fd.offset)))
        | none => none
      | none => none
    | _ => none
  | _, _ => none

def opField (C : Ctx) (T : Tr CV) (s : St) (t : TypeId) (x : Operand) (f : Nat) : Option OR :=
  match C.ty t, ev T x with
  | some r, some (.agg l) =>
    match r.desc with
    | .struct fs => match fs[f]? with
      | some fd => match C.ty fd.type with
        | some q => bif q.agg then okE s (.agg ((l.drop fd.offset).take q.size)) else match l[fd.offset]? with | some c => okE s c | none => none
        | none => none
      | none => none
    | _ => none
  | _, _ => none

def opIndexAddr (C : Ctx) (T : Tr CV) (s : St) (t : TypeId) (x i : Operand) : Option OR :=
  match C.ty t, ev T x, ev T i with
  | some r, some y, some (.int _ e) =>
    match s.conc e with
    | some (n, s) =>
      match r.desc, y with
      | .slice el, .slc (some (b, o)) len _ => match C.ty el with
        | some q => bif decide (0 ≤ n) && decide (n < len) then some ⟨.ptr (some (b, o + n.toNat * q.size)), s, [], []⟩ else none
        | none => none
      | .array len el, .ptr (some (b, o)) => match C.ty el with
        | some q => bif decide (0 ≤ n) && decide (n < len) then some ⟨.ptr (some (b, o + n.toNat * q.size)), s, [], []⟩ else none
        | none => none
      | _, _ => none
    | none => none
  | _, _, _ => none

def opIndex (C : Ctx) (T : Tr CV) (s : St) (t : TypeId) (x i : Operand) : Option OR :=
  match C.ty t, ev T x, ev T i with
  | some r, some (.agg l), some (.int _ e) =>
    match s.conc e with
    | some (n, s) =>
      match r.desc with
      | .array len el => match C.ty el with
        | some q => bif decide (0 ≤ n) && decide (n < len) then
            (bif q.agg then some ⟨.agg ((l.drop (n.toNat * q.size)).take q.size), s, [], []⟩ else match l[n.toNat * q.size]? with | some c => some ⟨c, s, [], []⟩ | none => none)
          else none
        | none => none
      | _ => none
    | none => none
  | _, _, _ => none

def opExtract (C : Ctx) (T : Tr CV) (s : St) (x : Operand) (i : Nat) : Option OR :=
  match ev T x with
  | some (.tup l) => match l[i]? with | some c => okE s c | none => none
  | _ => none

def opBuiltin (C : Ctx) (T : Tr CV) (s : St) (b : Builtin) (args : Array Operand) (argTypes : Array TypeId) : Option OR :=
  match evs T args.toList with
  | none => none
  | some vs =>
    match b, vs with
    | .len, [x] => match argTypes[0]? with
      | some t => match C.ty t with
        | some r => match r.desc, x with
          | .slice _, .slc _ n _ => okE s (.int .i64 (.c n))
          | .slice _, .emp => okE s (.int .i64 (.c 0))
          | .array n _, _ => okE s (.int .i64 (.c n))
          | _, _ => none
        | none => none
      | none => none
    | .min, [.int k a, .int k' b] => bif decide (k = k') then okE s (.int k (.mk .mn k a b)) else none
    | .max, [.int k a, .int k' b] => bif decide (k = k') then okE s (.int k (.mk .mx k a b)) else none
    | .cap, [.slc none _ _] => match argTypes[0]? with
      | some t => match C.ty t with
        | some r => match r.desc with
          | .slice _ => okE s (.int .i64 (.c 0))
          | _ => none
        | none => none
      | none => none
    | .append, [x, y] =>
      match argTypes[0]?, argTypes[1]? with
      | some t1, some t2 =>
        match C.ty t1, C.ty t2 with
        | some r, some r2 =>
          match r.desc with
          | .slice e =>
            match C.ty e with
            | some q => bif Nat.ble 1 q.size && Nat.ble q.bytes 100000 then
                match srcE q s r2.desc y with
                | some (l, n, R) => appE q s x l n R
                | none => none
              else none
            | none => none
          | _ => none
        | _, _ => none
      | _, _ => none
    | _, _ => none

/-- An operation that calls no Go function. -/
def opE (C : Ctx) (T : Tr CV) (s : St) (o : Oper) : Option OR :=
  match o.op with
  | .move x | .assign x => opMove C T s x
  | .pick c a b => opPick C T s c a b
  | .alloc t => opAlloc C T s t
  | .box t x => opBox C T s t x
  | .build t parts => opBuild C T s t parts
  | .buildSlice t len parts => opBuildSlice C T s t len parts
  | .load t x => opLoad C T s t x
  | .store t x v => opStore C T s t x v
  | .nilCheck x => opNil C T s x
  | .binOp op t x y _ => opBin C T s op t x y
  | .unOp op _ x => opUn C T s op x
  | .convert st dt x => opConv C T s st dt x
  | .makeFunc f a b => opFunc C T s f a b
  | .makeSlice t l c => opMakeSlice C T s t l c
  | .slice t x lo hi none => opSlice C T s t x lo hi
  | .fieldAddr t x f => opFieldAddr C T s t x f
  | .field t x f => opField C T s t x f
  | .indexAddr t x i => opIndexAddr C T s t x i
  | .index t x i => opIndex C T s t x i
  | .extract x i => opExtract C T s x i
  | .call { callee := .builtin b, args, argTypes } => opBuiltin C T s b args argTypes
  | _ => none

inductive Ex where
  | normal | exit (id : Nat) | ret
  deriving DecidableEq

def Ex.stays : Ex → Bool
  | .exit _ => false
  | _ => true

inductive Task where
  | call (f : Nat) (args : List CV)
  | code (c : Code) (nt : Nat) (T : Tr CV)

/-- What a task yields: a value, or how a statement was left and the temporaries. -/
inductive Res where
  | val (c : CV)
  | code (e : Ex) (T : Tr CV)

structure Out where
  res : Res
  s : St
  R : List Nat
  W : List Nat

def ins (b : Nat) (l : List Nat) : List Nat := bif l.any (Nat.beq b) then l else b :: l
def join (base : Nat) : List Nat → List Nat → List Nat
  | [], l => l
  | b :: r, l => bif Nat.blt b base then ins b (join base r l) else join base r l

/-- Whether a guarded operation is wanted. -/
def wants (ops : Array Oper) (T : Tr CV) (s : St) (o : Oper) : Option (Bool × St) :=
  match o.guard with
  | none => some (true, s)
  | some (j, want) => match (ops[j]?).bind (·.dst) with
    | none => some (false, s)
    | some t => match rd T t with
      | .bool e => match s.decide e with | some (v, s) => some (v == want, s) | none => none
      | .tup [] => some (false, s)
      | _ => none

def putT (nt : Nat) (T : Tr CV) (d : Option Tmp) (c : CV) : Option (Tr CV) :=
  match d with
  | none => some T
  | some d => bif Nat.blt d nt then some (T.set d c) else none

/-- One operation, wanted or not. -/
def oneE (C : Ctx) (self : Task → St → Option Out) (ops : Array Oper) (T : Tr CV) (s : St) (o : Oper) : Option OR :=
  match wants ops T s o with
  | none => none
  | some (false, s) => some ⟨undefC, s, [], []⟩
  | some (true, s) =>
    match o.op with
    | .call { callee := .value f, args, argTypes } =>
      match ev T f, evs T args.toList with
      | some (.fn (.func g) first captured), some vs =>
        match self (.call g (first ++ vs ++ captured)) s with
        | some ⟨.val c, s, R, W⟩ => some ⟨c, s, R, W⟩
        | _ => none
      | _, _ => none
    | _ => opE C T s o

/-- What an operation did to memory: the blocks that it read and wrote, the numbers that it made. -/
structure Mk where
  R : List Nat
  W : List Nat
  lo : Nat
  hi : Nat

def allLt (n : Nat) (l : List Nat) : Bool := l.all fun b => Nat.blt b n

/-- A region's operations in the order of the text; what each one did to memory. -/
def opsE (C : Ctx) (self : Task → St → Option Out) (ops : Array Oper) (nt : Nat) : List Oper → Tr CV → St → Option (Tr CV × St × List Mk)
  | [], T, s => some (T, s, [])
  | o :: l, T, s =>
    match oneE C self ops T s o with
    | none => none
    | some r =>
      match putT nt T o.dst r.val with
      | none => none
      | some T' => match opsE C self ops nt l T' r.s with
        | none => none
        | some (T'', s'', ms) => some (T'', s'', ⟨r.R, r.W, s.next, r.s.next⟩ :: ms)

def apartL (l m : List Nat) : Bool := l.all fun a => !m.any (Nat.beq a)
def outside (lo hi : Nat) (l : List Nat) : Bool := l.all fun b => Nat.blt b lo || Nat.ble hi b

def predM (acc : List Nat) : List Edge → Nat
  | [] => 0
  | e :: l => bif Region.binds .any e then (1 <<< e.on) ||| (match acc[e.on]? with | some m => m | none => 0) ||| predM acc l else predM acc l

/-- Which operations come before each operation, as bits. -/
def preds : List Oper → List Nat → List Nat
  | [], acc => acc
  | o :: l, acc => preds l (acc ++ [predM acc o.after.toList])

/-- Two operations without an order do not meet in memory. -/
def apartMk (m n : Mk) : Bool := apartL m.W n.R && apartL m.W n.W && apartL m.R n.W && outside m.lo m.hi n.R && outside m.lo m.hi n.W
def drawOk1 (i : Nat) (m : Mk) : List Mk → List Nat → Bool
  | n :: ns, p :: ps => (Nat.testBit p i || apartMk m n) && drawOk1 i m ns ps
  | _, _ => true
def drawOk : Nat → List Mk → List Nat → Bool
  | i, m :: ms, _ :: ps => drawOk1 i m ms ps && drawOk (i + 1) ms ps
  | _, _, _ => true

/-- Nothing is written, and nothing is read that was not there before. -/
def quietB (n : Nat) (ms : List Mk) : Bool := ms.all fun m => m.W.isEmpty && (Nat.beq m.lo n || allLt n m.R)

def sumR (base : Nat) : List Mk → List Nat
  | [] => []
  | m :: l => join base m.R (sumR base l)
def sumW (base : Nat) : List Mk → List Nat
  | [] => []
  | m :: l => join base m.W (sumW base l)

def resE (C : Ctx) (T : Tr CV) (s : St) : List ResultVar → Option (List CV × List Nat)
  | [] => some ([], [])
  | .tmp t :: l => match resE C T s l with | some (m, R) => some (rd T t :: m, R) | none => none
  | .cell a t :: l => match C.ty t, rd T a, resE C T s l with
    | some r, .ptr (some (b, o)), some (m, R) =>
      bif r.agg then match s.ld b o r.size with | some x => some (.agg x :: m, b :: R) | none => none
      else match s.ld b o 1 with | some [c] => some (c :: m, b :: R) | _ => none
    | _, _, _ => none

/-- One result as it is, several as a tuple. -/
def tupC : List CV → CV
  | [v] => v
  | vs => .tup vs

def args0 : Nat → List CV → Tr CV → Tr CV
  | _, [], T => T
  | i, c :: l, T => args0 (i + 1) l (T.set i c)

mutual
/-- A value that names no block. -/
def CV.plain : CV → Bool
  | .bool _ | .int _ _ | .raw _ | .ptr none | .slc none _ _ | .emp => true
  | .agg l | .tup l => CV.plains l
  | _ => false
def CV.plains : List CV → Bool
  | [] => true
  | c :: l => c.plain && CV.plains l
end

/-- A call's end: where nothing old was written and the value names no block, all that it made is forgotten. -/
def endE (s s' : St) (c : CV) (R W : List Nat) : Out :=
  bif W.isEmpty && c.plain then ⟨.val c, { s' with heap := s.heap }, R, []⟩ else ⟨.val c, s', R, W⟩

def bodyE (C : Ctx) (self : Nat → Task → St → Option Out) (f : Nat) (args : List CV) (s : St) : Option Out :=
  match C.fn f with
  | none => none
  | some fn => match fn.body with
    | none => none
    | some c =>
      bif Nat.ble args.length fn.ntmps then
        match self s.next (.code c fn.ntmps (args0 0 args .nil)) s with
        | some ⟨.code e T, s', R, W⟩ =>
          bif e.stays then
            match resE C T s' fn.results.toList with
            | some (vs, R') => some (endE s s' (tupC vs) (join s.next R' R) W)
            | none => none
          else none
        | _ => none
      else none

def callE (C : Ctx) (self : Nat → Task → St → Option Out) (f : Nat) (args : List CV) (s : St) : Option Out :=
  match C.memo f args s with
  | some (c, s') => some ⟨.val c, s', [], []⟩
  | none => bodyE C self f args s

def seqE (base : Nat) (self : Nat → Task → St → Option Out) (a b : Code) (nt : Nat) (T : Tr CV) (s : St) : Option Out :=
  match self base (.code a nt T) s with
  | some ⟨.code .normal T1, s1, R1, W1⟩ =>
    match self base (.code b nt T1) s1 with
    | some ⟨.code e T2, s2, R2, W2⟩ => some ⟨.code e T2, s2, join base R1 R2, join base W1 W2⟩
    | _ => none
  | some r => some r
  | none => none

def condE (base : Nat) (self : Nat → Task → St → Option Out) (c : Operand) (x y : Code) (nt : Nat) (T : Tr CV) (s : St) : Option Out :=
  match ev T c with
  | some (.bool e) => match s.decide e with
    | some (t, s) => self base (.code (bif t then x else y) nt T) s
    | none => none
  | _ => none

def blockE (base : Nat) (self : Nat → Task → St → Option Out) (i : Nat) (b : Code) (nt : Nat) (T : Tr CV) (s : St) : Option Out :=
  match self base (.code b nt T) s with
  | some ⟨.code (.exit j) T1, s1, R1, W1⟩ => some ⟨.code (bif Nat.beq j i then .normal else .exit j) T1, s1, R1, W1⟩
  | r => r

def loopE (base : Nat) (self : Nat → Task → St → Option Out) (b : Code) (nt : Nat) (T : Tr CV) (s : St) : Option Out :=
  match self base (.code b nt T) s with
  | some ⟨.code .normal T1, s1, R1, W1⟩ =>
    match self base (.code (.loop b) nt T1) s1 with
    | some ⟨.code e T2, s2, R2, W2⟩ => some ⟨.code e T2, s2, join base R1 R2, join base W1 W2⟩
    | _ => none
  | r => r

def regionE (C : Ctx) (base : Nat) (self : Nat → Task → St → Option Out) (ops : Array Oper) (draw : Bool) (nt : Nat) (T : Tr CV) (s : St) : Option Out :=
  match opsE C (fun t s => self s.next t s) ops nt ops.toList T s with
  | none => none
  | some (T', s', ms) =>
    bif !draw || quietB s.next ms || drawOk 0 ms (preds ops.toList []) then some ⟨.code .normal T', s', sumR base ms, sumW base ms⟩ else none

def codeE (C : Ctx) (base : Nat) (self : Nat → Task → St → Option Out) (c : Code) (nt : Nat) (T : Tr CV) (s : St) : Option Out :=
  match c with
  | .skip | .label _ => some ⟨.code .normal T, s, [], []⟩
  | .ret => some ⟨.code .ret T, s, [], []⟩
  | .exit i => some ⟨.code (.exit i) T, s, [], []⟩
  | .seq a b => seqE base self a b nt T s
  | .cond c x y => condE base self c x y nt T s
  | .block i b => blockE base self i b nt T s
  | .scope b => self base (.code b nt T) s
  | .loop b => loopE base self b nt T s
  | .region _ ops draw => regionE C base self ops draw nt T s
  | _ => none

def stepE (C : Ctx) (base : Nat) (self : Nat → Task → St → Option Out) : Task → St → Option Out
  | .call f args, s => callE C self f args s
  | .code c nt T, s => codeE C base self c nt T s

def eval (C : Ctx) : Nat → Nat → Task → St → Option Out
  | 0 => fun _ _ _ => none
  | n + 1 => fun base t s => stepE C base (eval C n) t s

/-- What the program's own tables say of a type. -/
def tyOf (P : Program) (t : Nat) : Option TyR :=
  match P.underlying t, P.info? t with
  | some d, some i => match i.zero with
    | some z => match CV.ofVals z.cells.toList with
      | some l => bif Nat.beq l.length i.size then some ⟨d, i.size, i.bytes, l, match d with | .struct _ | .array _ _ => true | _ => false⟩ else none
      | none => none
    | none => none
  | _, _ => none

/-- What the cells of a type are whose == compares cell by cell. -/
def eqTy (P : Program) : Nat → TypeId → Option (List (Option IntKind))
  | 0, _ => none
  | d + 1, t =>
    match P.underlying t, P.info? t with
    | some (.int k), some i => bif Nat.beq i.size 1 then some [some k] else none
    | some .bool, some i => bif Nat.beq i.size 1 then some [none] else none
    | some (.struct fs), some i =>
      bif P.stoodInHeld t then none else
      match eqFs P (eqTy P d) 0 fs.toList with
      | some ks => bif Nat.beq i.size ks.length then some ks else none
      | none => none
    | some (.array n e), some i =>
      match eqTy P d e with
      | some ks => bif Nat.beq i.size (n * ks.length) then some (List.replicate n ks).flatten else none
      | none => none
    | _, _ => none
where
  eqFs (P : Program) (f : TypeId → Option (List (Option IntKind))) : Nat → List Field → Option (List (Option IntKind))
    | _, [] => some []
    | off, fd :: l =>
      match f fd.type with
      | some ks => bif Nat.beq fd.offset off && fd.name != "_" then
          match eqFs P f (off + ks.length) l with
          | some m => some (ks ++ m)
          | none => none
        else none
      | none => none

def eqOf (P : Program) (t : TypeId) : Option (List (Option IntKind)) := bif P.eqGuardType P.depth t then none else eqTy P 12 t

def St.empty : St := ⟨.nil, 0, [], []⟩ --PROVE
--RUN def St.empty : St := { heap := .nil, next := 0, orc := [], pc := [] }

end --PROVE
end Go.Proofs.Ytlffofemajfdjaa.Cx
