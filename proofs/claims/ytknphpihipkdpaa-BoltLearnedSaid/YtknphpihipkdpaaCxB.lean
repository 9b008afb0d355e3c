/- The evaluator: one operation, a region, a statement, a call. -/
import Derived.Test.YtknphpihipkdpaaCxA
set_option linter.unusedSimpArgs false
set_option linter.unusedVariables false
namespace Go.Proofs.Ytknphpihipkdpaa.Cx
open Go Go.RowKit
noncomputable section

/-- What is known of a type. -/
structure TyR where
  desc : TypeDesc
  size : Nat
  bytes : Nat
  zero : List CV
  agg : Bool

/-- The record of a range over a function: the frame's temporaries at its start, the code of a round, how it stands. -/
structure LR where
  T : Tr CV
  nt : Nat
  ps : Array Tmp
  assign : Code
  body : Code
  st : LoopState
  pend : Option Code

/-- A block that holds no cells: the record of a range over a function; a map, by its entries. -/
inductive BX where
  | loop (r : LR)
  | map (l : List (CV × CV))

/-- Rows, one behind another. -/
def flatR (row : Nat → List CV) : Nat → List CV
  | 0 => []
  | n + 1 => flatR row n ++ row n

/-- What a block holds: cells, or rows of z cells, as many as a number that stands in Lean. -/
inductive BC where
  | lit (l : List CV)
  | rows (n z : Nat) (row : Nat → List CV) (h : ∀ j, (row j).length = z ∧ (row j).all CV.flat = true)
  /-- rows that are read alone: they may lie in memory that other blocks lie in, too -/
  | arg (n z : Nat) (row : Nat → List CV) (h : ∀ j, (row j).length = z ∧ (row j).all CV.flat = true)

def BC.list : BC → List CV
  | .lit l => l
  | .rows n _ row _ => flatR row n
  | .arg n _ row _ => flatR row n

/-- A block: its cells, the cells of an element of slices of it, whether it may still be read as cells; or what else it holds. -/
structure Blk where
  body : BC
  esz : Nat
  live : Bool
  ext : Option BX

def Blk.cells (k : Blk) : List CV := k.body.list

def BC.ro : BC → Bool
  | .arg .. => true
  | _ => false
def Blk.ro (k : Blk) : Bool := k.body.ro

structure St where
  heap : Tr Blk
  next : Nat
  orc : List Nat
  pc : List PC

abbrev Memo := Nat → List CV → St → Option (CV × St × List Nat × List Nat)

structure Ctx where
  ty : Nat → Option TyR
  fn : Nat → Option Func
  /-- of types of structs and arrays whose == compares cell by cell: what their cells are, integers of a kind or bools -/
  eq : Nat → Option (List (Option IntKind))
  /-- a type's zero value -/
  zv : Nat → Option CV
  /-- calls that are known: what they yield, the memory behind them, the blocks that they read and wrote -/
  memo : Memo

/-- What an operation yields, the memory behind it, and the blocks that it read and wrote. -/
structure OR where
  val : CV
  s : St
  R : List Nat
  W : List Nat

def undefC : CV := .tup []

def rd (T : Tr CV) (t : Nat) : CV := match T.get t with | some c => c | none => .any

def ev (T : Tr CV) : Operand → Option CV
  | .tmp t => some (rd T t)
  | .const v => CV.ofVal v
  | .global _ => none
  | .func f => some (.fn (.func f) [] [])

def evs (T : Tr CV) : List Operand → Option (List CV)
  | [] => some []
  | x :: l => match ev T x, evs T l with
    | some c, some m => some (c :: m)
    | _, _ => none

def St.ask (s : St) (b : BE) : Option (Bool × St) :=
  match PC.find b s.pc with
  | some v => some (v, s)
  | none => match s.orc with
    | [] => none
    | n :: t => some (Nat.beq n 1, { s with orc := t, pc := .b b (Nat.beq n 1) :: s.pc })

def St.decide (s : St) : BE → Option (Bool × St)
  | .c b => some (b, s)
  | .not b => match s.ask b with | some (v, s) => some (!v, s) | none => none
  | .x b => match s.orc with
    | [] => none
    | n :: t => some (Nat.beq n 1, { s with orc := t, pc := .b (.x b) (Nat.beq n 1) :: s.pc })
  | b => s.ask b

/-- A test that stands in Lean is asked at once. -/
def St.tell (s : St) : BE → Option (BE × St)
  | .x b => match s.decide (.x b) with | some (v, s) => some (.c v, s) | none => none
  | b => some (b, s)

/-- A test that must hold. -/
def St.must (s : St) : BE → Option St
  | .c b => bif b then some s else none
  | .x b => some { s with pc := .b (.x b) true :: s.pc }
  | b => match s.decide b with | some (true, s) => some s | _ => none

def St.conc (s : St) : IE → Option (Int × St)
  | .c n => some (n, s)
  | .x x => match s.orc with
    | [] => none
    | n :: t => some ((n : Int), { s with orc := t, pc := .b (.x (Decidable.decide (x = n))) true :: s.pc })
  | e => match PC.findN e s.pc with
    | some n => some (n, s)
    | none => match s.orc with
      | [] => none
      | n :: t => some ((n : Int), { s with orc := t, pc := .b (.cmp .eql e (.c n)) true :: s.pc })

/-- A place in a slice whose length is a symbol. -/
def St.place (s : St) (x e : IE) (N : Nat) : Option (Nat × St) :=
  match s.conc x with
  | some (n, s) => bif Decidable.decide (0 ≤ n) && Nat.blt n.toNat N then (match s.decide (BE.mk .lss (.c n) e) with | some (true, s) => some (n.toNat, s) | _ => none) else none
  | none => none

def St.ld (s : St) (b o n : Nat) : Option (List CV) :=
  match s.heap.get b with
  | some k => bif k.live && Nat.ble (o + n) k.cells.length && Nat.blt b s.next then some ((k.cells.drop o).take n) else none
  | none => none

def St.st (s : St) (b o : Nat) (l : List CV) : Option St :=
  match s.heap.get b with
  | some k => bif k.live && Nat.ble (o + l.length) k.cells.length && l.all CV.flat && Nat.blt b s.next && !k.ro then some { s with heap := s.heap.set b { k with body := .lit (k.cells.take o ++ l ++ k.cells.drop (o + l.length)) } } else none
  | none => none

def St.kill (s : St) (b : Nat) : St :=
  match s.heap.get b with
  | some k => { s with heap := s.heap.set b { k with live := false, ext := none } }
  | none => s

def St.newB (s : St) (l : BC) (esz : Nat) : St := { s with heap := s.heap.set s.next ⟨l, esz, true, none⟩, next := s.next + 1 }
def St.new (s : St) (l : List CV) (esz : Nat) : St := { s with heap := s.heap.set s.next ⟨.lit l, esz, true, none⟩, next := s.next + 1 }

/-- One of two numbers, one of two bools. -/
def IE.num : IE → Option Int
  | .c n | .x n => some n
  | _ => none
def BE.val : BE → Option Bool
  | .c b | .x b => some b
  | _ => none
def CV.sel (t : Bool) : CV → CV → CV
  | .int k a, .int k' b => bif decide (k = k') then (match a.num, b.num with | some x, some y => .int k (.x (bif t then x else y)) | _, _ => .junk) else .junk
  | .bool a, .bool b => match a.val, b.val with | some x, some y => .bool (.x (bif t then x else y)) | _, _ => .junk
  | _, _ => .junk

/-- A row of which some cells from a place on are others, if so. -/
def updRow (t : Bool) : Nat → List CV → List CV → List CV
  | f + 1, l, c :: r => c :: updRow t f l r
  | 0, x :: l, c :: r => CV.sel t x c :: updRow t 0 l r
  | _, _, r => r
/-- One of two rows. -/
def selRow (t : Bool) : List CV → List CV → List CV
  | a :: l, b :: m => CV.sel t a b :: selRow t l m
  | _, m => m

theorem CV.sel_flat (t : Bool) (a b : CV) : (CV.sel t a b).flat = true := by
  unfold CV.sel
  split
  · rename_i k x k' y
    cases decide (k = k') with
    | false => rfl
    | true => simp only [cond_true]; split <;> rfl
  · split <;> rfl
  · rfl
theorem updRow_ok (t : Bool) : ∀ (f : Nat) (l r : List CV), (updRow t f l r).length = r.length ∧ (r.all CV.flat = true → (updRow t f l r).all CV.flat = true)
  | f + 1, l, c :: r => by
    have := updRow_ok t f l r
    simp only [updRow, List.length_cons, List.all_cons, Bool.and_eq_true]
    exact ⟨by rw [this.1], fun h => ⟨h.1, this.2 h.2⟩⟩
  | 0, x :: l, c :: r => by
    have := updRow_ok t 0 l r
    simp only [updRow, List.length_cons, List.all_cons, Bool.and_eq_true]
    exact ⟨by rw [this.1], fun h => ⟨CV.sel_flat _ _ _, this.2 h.2⟩⟩
  | f + 1, l, [] => ⟨by simp [updRow], fun _ => by simp [updRow]⟩
  | 0, [], r => ⟨by cases r <;> simp [updRow], fun h => by
    cases r with
    | nil => simp [updRow]
    | cons a l => simpa [updRow] using h⟩
  | 0, x :: l, [] => ⟨by simp [updRow], fun _ => by simp [updRow]⟩
theorem selRow_ok (t : Bool) : ∀ (a b : List CV), (selRow t a b).length = b.length ∧ (b.all CV.flat = true → (selRow t a b).all CV.flat = true)
  | a :: l, b :: m => by
    have := selRow_ok t l m
    simp only [selRow, List.length_cons, List.all_cons, Bool.and_eq_true]
    exact ⟨by rw [this.1], fun h => ⟨CV.sel_flat _ _ _, this.2 h.2⟩⟩
  | [], m => ⟨by simp [selRow], fun h => by simpa [selRow] using h⟩
  | a :: l, [] => ⟨by simp [selRow], fun _ => by simp [selRow]⟩

/-- Cells of a row. -/
def St.ldx (s : St) (b z j f n : Nat) : Option (List CV × St) :=
  match s.heap.get b with
  | some ⟨.rows m z' row _, _, true, _⟩ => bif Nat.beq z z' && Nat.ble (f + n) z && Nat.blt b s.next then (match s.must (.x (Decidable.decide (j < m))) with | some s => some (((row j).drop f).take n, s) | none => none) else none
  | some ⟨.arg m z' row _, _, true, _⟩ => bif Nat.beq z z' && Nat.ble (f + n) z && Nat.blt b s.next then (match s.must (.x (Decidable.decide (j < m))) with | some s => some (((row j).drop f).take n, s) | none => none) else none
  | _ => none
def St.stx (s : St) (b z j f : Nat) (l : List CV) : Option St :=
  match s.heap.get b with
  | some ⟨.rows m z' row h, e, true, x⟩ => bif Nat.beq z z' && Nat.ble (f + l.length) z && l.all CV.flat && Nat.blt b s.next then
      (match s.must (.x (Decidable.decide (j < m))) with
      | some s => some { s with heap := s.heap.set b ⟨.rows m z' (fun i => updRow (Nat.beq i j) f l (row i)) (fun i => ⟨(updRow_ok _ _ _ _).1.trans (h i).1, (updRow_ok _ _ _ _).2 (h i).2⟩), e, true, x⟩ }
      | none => none) else none
  | _ => none

def St.newX (s : St) (x : BX) : St := { s with heap := s.heap.set s.next ⟨.lit [], 0, false, some x⟩, next := s.next + 1 }
def St.getX (s : St) (b : Nat) : Option BX :=
  match s.heap.get b with
  | some k => bif Nat.blt b s.next then k.ext else none
  | none => none
def St.setX (s : St) (b : Nat) (x : BX) : St := { s with heap := s.heap.set b ⟨.lit [], 0, false, some x⟩ }

/-- Cells that are symbols; a row of them that is read alone; N such rows as blocks. -/
def symCells : List IntKind → Nat → List CV
  | [], _ => []
  | k :: ks, K => .int k (.v K) :: symCells ks (K + 1)
theorem symCells_ok : ∀ (ks : List IntKind) (K : Nat), (symCells ks K).length = ks.length ∧ (symCells ks K).all CV.flat = true
  | [], _ => ⟨rfl, rfl⟩
  | k :: ks, K => ⟨congrArg Nat.succ (symCells_ok ks (K + 1)).1, (symCells_ok ks (K + 1)).2⟩
def rowB (ks : List IntKind) (K : Nat) : Blk := ⟨.arg 1 ks.length (fun _ => symCells ks K) (fun _ => symCells_ok ks K), ks.length, true, none⟩
def rowsB (ks : List IntKind) : (N b K : Nat) → Tr Blk → Tr Blk
  | 0, _, _, t => t
  | N + 1, b, K, t => rowsB ks N (b + 1) (K + ks.length) (t.set b (rowB ks K))

def CV.fit (c : CV) : Bool := match c with | .agg _ => true | c => c.flat

def fillC (place : Nat → Option (Nat × Nat)) : List CV → List (Nat × CV) → Option (List CV)
  | cells, [] => some cells
  | cells, (i, v) :: rest =>
    match place i with
    | none => none
    | some (off, size) =>
      bif Nat.beq v.cells.length size && Nat.ble (off + size) cells.length && v.fit then fillC place (cells.take off ++ v.cells ++ cells.drop (off + size)) rest else none

def rep : Nat → List CV → List CV
  | 0, _ => []
  | n + 1, l => l ++ rep n l

/-- The places of a struct's fields. -/
def placesC (C : Ctx) : List Field → Option (List (Nat × Nat))
  | [] => some []
  | f :: l => match C.ty f.type, placesC C l with
    | some q, some m => some ((f.offset, q.size) :: m)
    | _, _ => none

def evps (T : Tr CV) : List (Nat × Operand) → Option (List (Nat × CV))
  | [] => some []
  | (i, x) :: l => match ev T x, evps T l with
    | some c, some m => some ((i, c) :: m)
    | _, _ => none

/-- Cells of these kinds. -/
def shapeC : List (Option IntKind) → List CV → Bool
  | [], [] => true
  | none :: ks, .bool _ :: l => shapeC ks l
  | some k :: ks, .int k' _ :: l => decide (k = k') && shapeC ks l
  | _, _ => false

def eqCells (s : St) : List CV → List CV → Option (Bool × St)
  | .int _ a :: l, .int _ b :: m =>
    match s.decide (BE.mk .eql a b) with
    | some (true, s) => eqCells s l m
    | some (false, s) => some (false, s)
    | none => none
  | .bool a :: l, .bool b :: m =>
    match s.decide a with
    | some (x, s) => match s.decide b with
      | some (y, s) => bif x == y then eqCells s l m else some (false, s)
      | none => none
    | none => none
  | _, _ => some (true, s)

/-- What an append appends: its cells, how many elements, the blocks read. -/
def srcE (q : TyR) (s : St) (d : TypeDesc) (y : CV) : Option (List CV × Nat × List Nat) :=
  match d, y with
  | .int _, .int _ (.c n) => bif decide (0 ≤ n) && decide (n ≤ 10000) then some (rep n.toNat q.zero, n.toNat, []) else none
  | .slice _, .slc none _ _ => some ([], 0, [])
  | .slice _, .emp => some ([], 0, [])
  | .slice _, .slc (some (b, o)) n _ => match s.ld b o (n * q.size) with
    | some l => bif Nat.ble n 10000 then some (l, n, [b]) else none
    | none => none
  | .slice _, .sla b z o n => match s.ld b (o * z) (n * q.size) with
    | some l => bif Nat.ble n 10000 then some (l, n, [b]) else none
    | none => none
  | _, _ => none

/-- An append of such cells. -/
def appE (q : TyR) (s : St) (x : CV) (l : List CV) (n : Nat) (R : List Nat) : Option OR :=
  match x with
  | .slc none _ _ => bif Nat.beq n 0 then some ⟨x, s, R, []⟩ else some ⟨.slc (some (s.next, 0)) n n, s.new l q.size, R, []⟩
  | .emp => bif Nat.beq n 0 then some ⟨x, s, R, []⟩ else none
  | .slc (some (b, o)) m c =>
    bif Nat.beq n 0 then (bif Nat.ble m c then some ⟨x, s, R, []⟩ else none) else
    match s.ld b o (m * q.size), s.heap.get b with
    | some h, some k => bif Nat.beq k.esz q.size && Nat.ble (m + n) 10000 && l.all CV.flat && !k.ro then some ⟨.slc (some (s.next, 0)) (m + n) (m + n), (s.kill b).new (h ++ l) q.size, b :: R, [b]⟩ else none
    | _, _ => none
  | _ => none

/-- Rows that are appended. -/
structure RS where
  n : Nat
  z : Nat
  row : Nat → List CV
  h : ∀ j, (row j).length = z ∧ (row j).all CV.flat = true
  R : List Nat

def St.musts (s : St) : List Bool → Option St
  | [] => some s
  | b :: l => match s.must (.x b) with | some s => s.musts l | none => none

def srcX (q : TyR) (s : St) (d : TypeDesc) (y : CV) : Option (RS × St) :=
  match d, y with
  | .slice _, .slx b z o n _ => match s.heap.get b with
    | some ⟨.rows m z' row h, _, true, _⟩ => bif Nat.beq z z' && Nat.beq z q.size && Nat.blt b s.next then
        (match s.musts [decide (o + n ≤ m), decide (1 ≤ n)] with | some s => some (⟨n, z', fun i => row (o + i), fun i => h _, [b]⟩, s) | none => none) else none
    | some ⟨.arg m z' row h, _, true, _⟩ => bif Nat.beq z z' && Nat.beq z q.size && Nat.blt b s.next then
        (match s.musts [decide (o + n ≤ m), decide (1 ≤ n)] with | some s => some (⟨n, z', fun i => row (o + i), fun i => h _, [b]⟩, s) | none => none) else none
    | _ => none
  | .slice _, .sla b z o n => match s.heap.get b with
    | some ⟨.rows m z' row h, _, true, _⟩ => bif Nat.beq z z' && Nat.beq z q.size && Nat.blt b s.next then
        (match s.musts [decide (o + n ≤ m), decide (1 ≤ n)] with | some s => some (⟨n, z', fun i => row (o + i), fun i => h _, [b]⟩, s) | none => none) else none
    | some ⟨.arg m z' row h, _, true, _⟩ => bif Nat.beq z z' && Nat.beq z q.size && Nat.blt b s.next then
        (match s.musts [decide (o + n ≤ m), decide (1 ≤ n)] with | some s => some (⟨n, z', fun i => row (o + i), fun i => h _, [b]⟩, s) | none => none) else none
    | _ => none
  | .slice _, .slc (some (b, o)) 1 _ => match s.ld b o q.size with
    | some l => if hf : l.all CV.flat = true then (bif Nat.beq l.length q.size then some (⟨1, l.length, fun _ => l, fun _ => ⟨rfl, hf⟩, [b]⟩, s) else none) else none
    | none => none
  | _, _ => none

def appX (q : TyR) (s : St) (x : CV) (rs : RS) : Option OR :=
  match x with
  | .slx b z o m c => match s.heap.get b with
    | some ⟨.rows M z' row h, e, true, _⟩ => bif Nat.beq z z' && Nat.beq e q.size && Nat.beq z q.size && Nat.beq rs.z q.size && Nat.blt b s.next then
        (match s.musts [decide (o + m ≤ M), decide (m + rs.n ≤ 10000)] with
        | some s => some ⟨.slx s.next rs.z 0 (m + rs.n) (m + rs.n), (s.kill b).newB (.rows (m + rs.n) rs.z (fun i => selRow (Nat.blt i m) (row (o + i)) (rs.row (i - m))) (fun i => ⟨(selRow_ok _ _ _).1.trans (rs.h _).1, (selRow_ok _ _ _).2 (rs.h _).2⟩)) q.size, b :: rs.R, [b]⟩
        | none => none) else none
    | _ => none
  | .slc none _ _ => bif Nat.beq rs.z q.size then
      (match s.musts [decide (rs.n ≤ 10000)] with
      | some s => some ⟨.slx s.next rs.z 0 rs.n rs.n, s.newB (.rows rs.n rs.z rs.row rs.h) q.size, rs.R, []⟩
      | none => none) else none
  | .slc (some (b, o)) 0 c => match s.heap.get b with
    | some ⟨.lit l, e, true, _⟩ => bif Nat.ble o l.length && Nat.beq e q.size && Nat.beq rs.z q.size && Nat.blt b s.next then
        (match s.musts [decide (rs.n ≤ 10000)] with
        | some s => some ⟨.slx s.next rs.z 0 rs.n rs.n, (s.kill b).newB (.rows rs.n rs.z rs.row rs.h) q.size, b :: rs.R, [b]⟩
        | none => none) else none
    | _ => none
  | _ => none

/-- Whether an append is one of rows. -/
def isX (x y : CV) : Bool :=
  match x, y with
  | .slx .., _ => true
  | _, .slx .. => true
  | _, .sla .. => true
  | _, _ => false

abbrev okE (s : St) (c : CV) : Option OR := some ⟨c, s, [], []⟩

def opMove (C : Ctx) (T : Tr CV) (s : St) (x : Operand) : Option OR :=
  match ev T x with | some c => okE s c | none => none

def opPick (C : Ctx) (T : Tr CV) (s : St) (c a b : Operand) : Option OR :=
  match ev T c, ev T a, ev T b with
  | some (.bool e), some x, some y => match s.decide e with | some (t, s) => some ⟨bif t then x else y, s, [], []⟩ | none => none
  | _, _, _ => none

def opAlloc (C : Ctx) (T : Tr CV) (s : St) (t : TypeId) : Option OR :=
  match C.ty t with | some r => some ⟨.ptr (some (s.next, 0)), s.new r.zero 0, [], []⟩ | none => none

def opBox (C : Ctx) (T : Tr CV) (s : St) (t : TypeId) (x : Operand) : Option OR :=
  match ev T x with | some c => bif c.fit then some ⟨.ptr (some (s.next, 0)), s.new c.cells 0, [], []⟩ else none | none => none

def opBuild (C : Ctx) (T : Tr CV) (s : St) (t : TypeId) (parts : Array (Nat × Operand)) : Option OR :=
  match C.ty t, evps T parts.toList with
  | some r, some ps =>
    match r.desc with
    | .struct fs => match placesC C fs.toList with
      | some pl => match fillC (fun i => pl[i]?) r.zero ps with | some l => okE s (.agg l) | none => none
      | none => none
    | .array n e => match C.ty e with
      | some q => match fillC (fun i => some (i * q.size, q.size)) r.zero ps with | some l => okE s (.agg l) | none => none
      | none => none
    | _ => none
  | _, _ => none

def opBuildSlice (C : Ctx) (T : Tr CV) (s : St) (t : TypeId) (len : Nat) (parts : Array (Nat × Operand)) : Option OR :=
  match C.ty t, evps T parts.toList with
  | some r, some ps =>
    match r.desc with
    | .slice e => match C.ty e with
      | some q =>
        bif Nat.ble 1 q.size && Nat.ble (len * q.size) 10000 then
          match fillC (fun i => some (i * q.size, q.size)) (rep len q.zero) ps with
          | some l => some ⟨.slc (some (s.next, 0)) len len, s.new l q.size, [], []⟩
          | none => none
        else none
      | none => none
    | _ => none
  | _, _ => none

def opLoad (C : Ctx) (T : Tr CV) (s : St) (t : TypeId) (x : Operand) : Option OR :=
  match C.ty t, ev T x with
  | some r, some (.ptr (some (b, o))) =>
    bif r.agg then match s.ld b o r.size with | some l => some ⟨.agg l, s, [b], []⟩ | none => none
    else match s.ld b o 1 with | some [c] => some ⟨c, s, [b], []⟩ | _ => none
  | some r, some (.ptx b z j f) =>
    bif r.agg then match s.ldx b z j f r.size with | some (l, s) => some ⟨.agg l, s, [b], []⟩ | none => none
    else match s.ldx b z j f 1 with | some ([c], s) => some ⟨c, s, [b], []⟩ | _ => none
  | _, _ => none

def opStore (C : Ctx) (T : Tr CV) (s : St) (t : TypeId) (x v : Operand) : Option OR :=
  match C.ty t, ev T x, ev T v with
  | some r, some (.ptr (some (b, o))), some c =>
    bif c.fit && Nat.beq c.cells.length r.size then match s.st b o c.cells with | some s' => some ⟨undefC, s', [], [b]⟩ | none => none else none
  | some r, some (.ptx b z j f), some c =>
    bif c.fit && Nat.beq c.cells.length r.size then match s.stx b z j f c.cells with | some s' => some ⟨undefC, s', [], [b]⟩ | none => none else none
  | _, _, _ => none

def opNil (C : Ctx) (T : Tr CV) (s : St) (x : Operand) : Option OR :=
  match ev T x with
  | some (.ptr (some a)) => okE s (.ptr (some a))
  | some (.ptx b z j f) => okE s (.ptx b z j f)
  | some (.fn (.func f) a b) => okE s (.fn (.func f) a b)
  | _ => none

def cmpE (s : St) (b : BE) : Option OR := match s.tell b with | some (b, s) => some ⟨.bool b, s, [], []⟩ | none => none

def opBinInt (s : St) (op : BinOp) (k : IntKind) (a : IE) (k' : IntKind) (b : IE) : Option OR :=
  match op with
  | .shl | .shr => match s.must (BE.mk .geq b (.c 0)) with
    | some s => some ⟨.int k (.mk (match op with | .shl => .shl | _ => .shr) k a b), s, [], []⟩
    | none => none
  | _ =>
  bif decide (k = k') then
    match op with
    | .add => okE s (.int k (.mk .add k a b))
    | .sub => okE s (.int k (.mk .sub k a b))
    | .mul => okE s (.int k (.mk .mul k a b))
    | .and => okE s (.int k (.mk .and k a b))
    | .or => okE s (.int k (.mk .or k a b))
    | .xor => okE s (.int k (.mk .xor k a b))
    | .andNot => okE s (.int k (.mk .andNot k a b))
    | .quo => match s.must (BE.mk .neq b (.c 0)) with | some s => some ⟨.int k (.mk .quo k a b), s, [], []⟩ | none => none
    | .rem => match s.must (BE.mk .neq b (.c 0)) with | some s => some ⟨.int k (.mk .rem k a b), s, [], []⟩ | none => none
    | .eql => cmpE s (.mk .eql a b)
    | .neq => cmpE s (.mk .neq a b)
    | .lss => cmpE s (.mk .lss a b)
    | .leq => cmpE s (.mk .leq a b)
    | .gtr => cmpE s (.mk .gtr a b)
    | .geq => cmpE s (.mk .geq a b)
    | _ => none
  else none

def opBinBool (C : Ctx) (s : St) (op : BinOp) (t : TypeId) (a b : BE) : Option OR :=
  match C.ty t, op with
  | some r, .eql => match r.desc with
    | .bool => match s.decide a with
      | some (x, s1) => match s1.decide b with | some (y, s2) => some ⟨.bool (.c (x == y)), s2, [], []⟩ | none => none
      | _ => none
    | _ => none
  | some r, .neq => match r.desc with
    | .bool => match s.decide a with
      | some (x, s1) => match s1.decide b with | some (y, s2) => some ⟨.bool (.c (x != y)), s2, [], []⟩ | none => none
      | _ => none
    | _ => none
  | _, _ => none

def opBinAgg (C : Ctx) (s : St) (op : BinOp) (t : TypeId) (a b : List CV) : Option OR :=
  match C.eq t with
  | some ks =>
    bif shapeC ks a && shapeC ks b then
      match op, eqCells s a b with
      | .eql, some (v, s) => some ⟨.bool (.c v), s, [], []⟩
      | .neq, some (v, s) => some ⟨.bool (.c !v), s, [], []⟩
      | _, _ => none
    else none
  | none => none

/-- Whether a value is nil, as far as its shape says so. -/
def CV.isNil : TypeDesc → CV → Option Bool
  | .slice _, .slc none _ _ => some true
  | .slice _, .slc (some _) _ _ => some false
  | .slice _, .slx .. => some false
  | .slice _, .emp => some false
  | .map _ _, .map _ => some false
  | .map _ _, .raw (.map none) => some true
  | .func _ _ _, .raw .nilFunc => some true
  | .func _ _ _, .fn .. => some false
  | .pointer _, .ptr none => some true
  | .pointer _, .ptr (some _) => some false
  | .pointer _, .ptx .. => some false
  | _, _ => none

/-- A comparison with nil. -/
def opBinNil (C : Ctx) (s : St) (op : BinOp) (t : TypeId) (x y : CV) : Option OR :=
  match C.ty t with
  | some r => match x.isNil r.desc, y.isNil r.desc with
    | some a, some b =>
      bif a || b then
        match op with
        | .eql => okE s (.bool (.c (a && b)))
        | .neq => okE s (.bool (.c !(a && b)))
        | _ => none
      else none
    | _, _ => none
  | none => none

def opBin (C : Ctx) (T : Tr CV) (s : St) (op : BinOp) (t : TypeId) (x y : Operand) : Option OR :=
  match ev T x, ev T y with
  | some (.int k a), some (.int k' b) => opBinInt s op k a k' b
  | some (.bool a), some (.bool b) => opBinBool C s op t a b
  | some (.agg a), some (.agg b) => opBinAgg C s op t a b
  | some x, some y => opBinNil C s op t x y
  | _, _ => none

def opUn (C : Ctx) (T : Tr CV) (s : St) (op : UnOp) (x : Operand) : Option OR :=
  match op, ev T x with
  | .neg, some (.int k a) => okE s (.int k (.mk .sub k (.c 0) a))
  | .not, some (.bool b) => okE s (.bool b.neg)
  | _, _ => none

def opConv (C : Ctx) (T : Tr CV) (s : St) (st dt : TypeId) (x : Operand) : Option OR :=
  match C.ty st, C.ty dt, ev T x with
  | some r, some q, some (.int _ a) => match q.desc with
    | .int k => okE s (.int k (.mk .conv k a (.c 0)))
    | _ => none
  | _, _, _ => none

def opFunc (C : Ctx) (T : Tr CV) (s : St) (f : Fn) (a b : Array Operand) : Option OR :=
  match evs T a.toList, evs T b.toList with
  | some x, some y => okE s (.fn f x y)
  | _, _ => none

/-- Rows of zero values. -/
def zrows (q : TyR) (s : St) (n : Int) : Option OR :=
  if hf : q.zero.all CV.flat = true then
    (bif Nat.ble 1 q.size && Nat.ble q.bytes 100000 && Nat.beq q.zero.length q.size then
      (match s.musts [decide (0 ≤ n), decide (n ≤ 10000)] with
      | some s => some ⟨.slx s.next q.zero.length 0 n.toNat n.toNat, s.newB (.rows n.toNat q.zero.length (fun _ => q.zero) (fun _ => ⟨rfl, hf⟩)) q.size, [], []⟩
      | none => none) else none)
  else none

def opMakeSlice (C : Ctx) (T : Tr CV) (s : St) (t : TypeId) (l c : Operand) : Option OR :=
  match C.ty t, ev T l, ev T c with
  | some r, some (.int _ (.c n)), some (.int _ (.c m)) =>
    match r.desc with
    | .slice e => match C.ty e with
      | some q => bif decide (0 ≤ n) && decide (n ≤ m) && decide (m ≤ 10000) && Nat.ble 1 q.size && Nat.ble q.bytes 100000 then some ⟨.slc (some (s.next, 0)) n.toNat m.toNat, s.new (rep m.toNat q.zero) q.size, [], []⟩ else none
      | none => none
    | _ => none
  | some r, some (.int k (.x n)), some (.int k' (.x m)) =>
    match r.desc with
    | .slice e => match C.ty e with
      | some q => match s.must (.x (decide (n = m))) with
        | some s => zrows q s n
        | none => none
      | none => none
    | _ => none
  | _, _, _ => none

/-- A bound of a part of rows. -/
def boundX (T : Tr CV) (x : Option Operand) (d : Nat) : Option Int := match x with
  | none => some d
  | some x => match ev T x with
    | some (.int _ e) => e.num
    | _ => none

/-- A part of a slice of rows. -/
def opSliceX (C : Ctx) (T : Tr CV) (s : St) (t : TypeId) (x : Operand) (lo hi : Option Operand) : Option OR :=
  match C.ty t, ev T x with
  | some r, some (.slx b z o n c) =>
    match r.desc with
    | .slice e => match C.ty e, boundX T lo 0, boundX T hi n with
      | some q, some l, some h =>
        bif Nat.beq z q.size then
          match s.musts [decide (0 ≤ l), decide (l ≤ h), decide (h ≤ c)] with
          | some s => some ⟨bif lo.isNone then .slx b z o h.toNat c else .sla b z (o + l.toNat) (h.toNat - l.toNat), s, [], []⟩
          | none => none
        else none
      | _, _, _ => none
    | _ => none
  | some r, some (.sla b z o n) =>
    match r.desc with
    | .slice e => match C.ty e, boundX T lo 0, boundX T hi n with
      | some q, some l, some h =>
        bif Nat.beq z q.size then
          match s.musts [decide (0 ≤ l), decide (l ≤ h), decide (h ≤ n)] with
          | some s => some ⟨.sla b z (o + l.toNat) (h.toNat - l.toNat), s, [], []⟩
          | none => none
        else none
      | _, _, _ => none
    | _ => none
  | _, _ => none

def opSlice (C : Ctx) (T : Tr CV) (s : St) (t : TypeId) (x : Operand) (lo hi : Option Operand) : Option OR :=
  match C.ty t, ev T x with
  | some r, some (.slc a n c) =>
    match r.desc with
    | .slice e => match C.ty e with
      | some q =>
        let bound (x : Option Operand) (d : Nat) : Option Nat := match x with
          | none => some d
          | some x => match ev T x with
            | some (.int _ (.c m)) => bif decide (0 ≤ m) then some m.toNat else none
            | some (.int _ e) => match PC.findN e s.pc with | some m => bif decide (0 ≤ m) then some m.toNat else none | none => none
            | _ => none
        match bound lo 0, bound hi n with
        | some l, some h =>
          bif Nat.ble l h && Nat.ble h c then
            match a with
            | some (b, o) =>
              bif Nat.beq l 0 then okE s (.slc (some (b, o)) h c) else
              bif Nat.blt l c then
                match s.heap.get b with
                | some k => bif k.live && Nat.beq k.esz q.size && Nat.blt b s.next then some ⟨.slc (some (b, o + l * q.size)) (h - l) (c - l), s, [b], []⟩ else none
                | none => none
              else okE s .emp
            | none => okE s (.slc none 0 0)
          else none
        | _, _ => none
      | none => none
    | _ => none
  | _, _ => none

/-- All of an array in memory, as a slice. -/
def opSliceArr (C : Ctx) (T : Tr CV) (s : St) (t : TypeId) (x : Operand) : Option OR :=
  match C.ty t, ev T x with
  | some r, some (.ptr (some (b, o))) =>
    match r.desc with
    | .array n e => match C.ty e, s.heap.get b with
      | some q, some k => bif k.live && Nat.beq k.esz 0 && Nat.ble o k.cells.length && Nat.blt b s.next then some ⟨.slc (some (b, o)) n n, s, [b], []⟩ else none
      | _, _ => none
    | _ => none
  | _, _ => none

/-- A bound that is a symbol is taken at a value. -/
def concOp (T : Tr CV) (s : St) : Option Operand → Option St
  | none => some s
  | some x => match ev T x with
    | some (.int _ e) => match s.conc e with | some (_, s) => some s | none => none
    | _ => some s

def opSlices (C : Ctx) (T : Tr CV) (s : St) (t : TypeId) (x : Operand) (lo hi : Option Operand) : Option OR :=
  match lo, hi, opSliceArr C T s t x with
  | none, none, some r => some r
  | _, _, _ => match ev T x with
    | some (.slx ..) => opSliceX C T s t x lo hi
    | some (.sla ..) => opSliceX C T s t x lo hi
    | _ => match concOp T s lo with
      | some s => match concOp T s hi with
        | some s => opSlice C T s t x lo hi
        | none => none
      | none => none

def opFieldAddr (C : Ctx) (T : Tr CV) (s : St) (t : TypeId) (x : Operand) (f : Nat) : Option OR :=
  match C.ty t, ev T x with
  | some r, some (.ptr (some (b, o))) =>
    match r.desc with
    | .struct fs => match fs[f]? with
      | some fd => match C.ty fd.type with
        | some q => bif Nat.beq q.size 0 then none else okE s (.ptr (some (b, o + fd.offset)))
        | none => none
      | none => none
    | _ => none
  | some r, some (.ptx b z j o) =>
    match r.desc with
    | .struct fs => match fs[f]? with
      | some fd => match C.ty fd.type with
        | some q => bif Nat.beq q.size 0 then none else okE s (.ptx b z j (o + fd.offset))
        | none => none
      | none => none
    | _ => none
  | _, _ => none

def opField (C : Ctx) (T : Tr CV) (s : St) (t : TypeId) (x : Operand) (f : Nat) : Option OR :=
  match C.ty t, ev T x with
  | some r, some (.agg l) =>
    match r.desc with
    | .struct fs => match fs[f]? with
      | some fd => match C.ty fd.type with
        | some q => bif q.agg then okE s (.agg ((l.drop fd.offset).take q.size)) else match l[fd.offset]? with | some c => okE s c | none => none
        | none => none
      | none => none
    | _ => none
  | _, _ => none

def opIndexAddr (C : Ctx) (T : Tr CV) (s : St) (t : TypeId) (x i : Operand) : Option OR :=
  match C.ty t, ev T x, ev T i with
  | some r, some (.slr b z N e), some (.int _ y) =>
    match r.desc with
    | .slice el => match C.ty el with
      | some q => bif Nat.beq z q.size then (match s.place y e N with | some (n, s) => some ⟨.ptr (some (b + n, 0)), s, [], []⟩ | none => none) else none
      | none => none
    | _ => none
  | some r, some (.slx b z o len _), some (.int _ e) =>
    match r.desc, e.num with
    | .slice el, some n => match C.ty el with
      | some q => bif Nat.beq z q.size then
          (match s.musts [decide (0 ≤ n), decide (n < len)] with
          | some s => some ⟨.ptx b z (o + n.toNat) 0, s, [], []⟩
          | none => none) else none
      | none => none
    | _, _ => none
  | some r, some (.sla b z o len), some (.int _ e) =>
    match r.desc, e.num with
    | .slice el, some n => match C.ty el with
      | some q => bif Nat.beq z q.size then
          (match s.musts [decide (0 ≤ n), decide (n < len)] with
          | some s => some ⟨.ptx b z (o + n.toNat) 0, s, [], []⟩
          | none => none) else none
      | none => none
    | _, _ => none
  | some r, some (.ptx b z j o), some (.int _ e) =>
    match s.conc e with
    | some (n, s) =>
      match r.desc with
      | .array len el => match C.ty el with
        | some q => bif decide (0 ≤ n) && decide (n < len) then some ⟨.ptx b z j (o + n.toNat * q.size), s, [], []⟩ else none
        | none => none
      | _ => none
    | none => none
  | some r, some y, some (.int _ e) =>
    match s.conc e with
    | some (n, s) =>
      match r.desc, y with
      | .slice el, .slc (some (b, o)) len _ => match C.ty el with
        | some q => bif decide (0 ≤ n) && decide (n < len) then some ⟨.ptr (some (b, o + n.toNat * q.size)), s, [], []⟩ else none
        | none => none
      | .array len el, .ptr (some (b, o)) => match C.ty el with
        | some q => bif decide (0 ≤ n) && decide (n < len) then some ⟨.ptr (some (b, o + n.toNat * q.size)), s, [], []⟩ else none
        | none => none
      | _, _ => none
    | none => none
  | _, _, _ => none

def opIndex (C : Ctx) (T : Tr CV) (s : St) (t : TypeId) (x i : Operand) : Option OR :=
  match C.ty t, ev T x, ev T i with
  | some r, some (.agg l), some (.int _ e) =>
    match s.conc e with
    | some (n, s) =>
      match r.desc with
      | .array len el => match C.ty el with
        | some q => bif decide (0 ≤ n) && decide (n < len) then
            (bif q.agg then some ⟨.agg ((l.drop (n.toNat * q.size)).take q.size), s, [], []⟩ else match l[n.toNat * q.size]? with | some c => some ⟨c, s, [], []⟩ | none => none)
          else none
        | none => none
      | _ => none
    | none => none
  | some r, some (.raw (.string b)), some (.int _ (.c n)) =>
    match r.desc with
    | .string => bif decide (0 ≤ n) then match b[n.toNat]? with | some x => okE s (.int .u8 (.c x.toNat)) | none => none else none
    | _ => none
  | _, _, _ => none

def opExtract (C : Ctx) (T : Tr CV) (s : St) (x : Operand) (i : Nat) : Option OR :=
  match ev T x with
  | some (.tup l) => match l[i]? with | some c => okE s c | none => none
  | _ => none

def opBuiltin (C : Ctx) (T : Tr CV) (s : St) (b : Builtin) (args : Array Operand) (argTypes : Array TypeId) : Option OR :=
  match evs T args.toList with
  | none => none
  | some vs =>
    match b, vs with
    | .len, [x] => match argTypes[0]? with
      | some t => match C.ty t with
        | some r => match r.desc, x with
          | .slice _, .slc _ n _ => okE s (.int .i64 (.c n))
          | .slice _, .slx _ _ _ n _ => okE s (.int .i64 (.x n))
          | .slice _, .sla _ _ _ n => okE s (.int .i64 (.x n))
          | .slice _, .sln e => okE s (.int .i64 e)
          | .slice _, .slr _ _ _ e => okE s (.int .i64 e)
          | .slice _, .emp => okE s (.int .i64 (.c 0))
          | .array n _, _ => okE s (.int .i64 (.c n))
          | _, _ => none
        | none => none
      | none => none
    | .min, [.int k a, .int k' b] => bif decide (k = k') then okE s (.int k (.mk .mn k a b)) else none
    | .max, [.int k a, .int k' b] => bif decide (k = k') then okE s (.int k (.mk .mx k a b)) else none
    | .min, [.int k a, .int k' b, .int k'' c] => bif decide (k = k') && decide (k = k'') then okE s (.int k (.mk .mn k (.mk .mn k a b) c)) else none
    | .max, [.int k a, .int k' b, .int k'' c] => bif decide (k = k') && decide (k = k'') then okE s (.int k (.mk .mx k (.mk .mx k a b) c)) else none
    | .cap, [.slc none _ _] => match argTypes[0]? with
      | some t => match C.ty t with
        | some r => match r.desc with
          | .slice _ => okE s (.int .i64 (.c 0))
          | _ => none
        | none => none
      | none => none
    | .append, [x, y] =>
      match argTypes[0]?, argTypes[1]? with
      | some t1, some t2 =>
        match C.ty t1, C.ty t2 with
        | some r, some r2 =>
          match r.desc with
          | .slice e =>
            match C.ty e with
            | some q => bif Nat.ble 1 q.size && Nat.ble q.bytes 100000 then
                bif isX x y then (match srcX q s r2.desc y with
                  | some (rs, s) => appX q s x rs
                  | none => none) else
                match srcE q s r2.desc y with
                | some (l, n, R) => appE q s x l n R
                | none => none
              else none
            | none => none
          | _ => none
        | _, _ => none
      | _, _ => none
    | _, _ => none

/-- Whether a value is a key of a type. -/
def keyOkE (C : Ctx) (kt : TypeId) (key : CV) : Bool :=
  match C.ty kt with
  | some r => match r.desc, key with
    | .int k, .int k' _ => decide (k = k')
    | .bool, .bool _ => true
    | .string, .raw (.string _) => true
    | .struct _, .agg x => match C.eq kt with | some ks => shapeC ks x | none => false
    | .array _ _, .agg x => match C.eq kt with | some ks => shapeC ks x | none => false
    | _, _ => false
  | none => false

/-- Whether two keys are the same. -/
def keyE (C : Ctx) (kt : TypeId) (s : St) (a b : CV) : Option (Bool × St) :=
  match a, b with
  | .int k x, .int k' y => bif decide (k = k') then s.decide (BE.mk .eql x y) else none
  | .bool x, .bool y => eqCells s [.bool x] [.bool y]
  | .raw (.string x), .raw (.string y) => some (x == y, s)
  | .agg x, .agg y => match C.eq kt with
    | some ks => bif shapeC ks x && shapeC ks y then eqCells s x y else none
    | none => none
  | _, _ => none

def findE (C : Ctx) (kt : TypeId) (key : CV) : List (CV × CV) → Nat → St → Option (Option (Nat × CV) × St)
  | [], _, s => some (none, s)
  | (k, v) :: l, i, s => match keyE C kt s key k with
    | some (true, s) => some (some (i, v), s)
    | some (false, s) => findE C kt key l (i + 1) s
    | none => none

def opMakeMap (C : Ctx) (T : Tr CV) (s : St) (t : TypeId) (r : Option Operand) : Option OR :=
  match r with
  | none => some ⟨.map s.next, s.newX (.map []), [], []⟩
  | some _ => none

def opLookup (C : Ctx) (T : Tr CV) (s : St) (t : TypeId) (x i : Operand) (ok : Bool) : Option OR :=
  match C.ty t, ev T x, ev T i with
  | some r, some y, some key =>
    match r.desc with
    | .map kt e =>
      bif keyOkE C kt key then
        match C.zv e with
        | some z =>
          match y with
          | .map b => match s.getX b with
            | some (.map es) => match findE C kt key es 0 s with
              | some (some (_, v), s') => some ⟨bif ok then .tup [v, .bool (.c true)] else v, s', [b], []⟩
              | some (none, s') => some ⟨bif ok then .tup [z, .bool (.c false)] else z, s', [b], []⟩
              | none => none
            | _ => none
          | _ => none
        | none => none
      else none
    | _ => none
  | _, _, _ => none

def opMapUpdate (C : Ctx) (T : Tr CV) (s : St) (t : TypeId) (x i v : Operand) : Option OR :=
  match C.ty t, ev T x, ev T i, ev T v with
  | some r, some (.map b), some key, some c =>
    match r.desc with
    | .map kt e =>
      bif keyOkE C kt key then
        match s.getX b with
        | some (.map es) => match findE C kt key es 0 s with
          | some (some (n, _), s') => some ⟨undefC, s'.setX b (.map (es.set n (key, c))), [b], [b]⟩
          | some (none, s') => some ⟨undefC, s'.setX b (.map (es ++ [(key, c)])), [b], [b]⟩
          | none => none
        | _ => none
      else none
    | _ => none
  | _, _, _, _ => none

/-- The entry of a key, made where there is none: its value, and its number. (Entries are numbered as they come: none is ever deleted.) -/
def opMapEntry (C : Ctx) (T : Tr CV) (s : St) (t : TypeId) (x i : Operand) : Option OR :=
  match C.ty t, ev T x, ev T i with
  | some r, some (.map b), some key =>
    match r.desc with
    | .map kt e =>
      bif keyOkE C kt key then
        match C.zv e, s.getX b with
        | some z, some (.map es) => match findE C kt key es 0 s with
          | some (some (n, v), s') => some ⟨.tup [v, .int .i64 (.c n)], s'.setX b (.map (es.set n (key, v))), [b], [b]⟩
          | some (none, s') => some ⟨.tup [z, .int .i64 (.c es.length)], s'.setX b (.map (es ++ [(key, z)])), [b], [b]⟩
          | none => none
        | _, _ => none
      else none
    | _ => none
  | _, _, _ => none

def opEntryStore (C : Ctx) (T : Tr CV) (s : St) (x i v : Operand) : Option OR :=
  match ev T x, ev T i, ev T v with
  | some (.map b), some (.int _ (.c n)), some c =>
    match s.getX b with
    | some (.map es) => bif decide (0 ≤ n) then
        match es[n.toNat]? with
        | some (k, _) => some ⟨undefC, s.setX b (.map (es.set n.toNat (k, c))), [b], [b]⟩
        | none => none
      else none
    | _ => none
  | _, _, _ => none

/-- An operation that calls no Go function. -/
def opE (C : Ctx) (T : Tr CV) (s : St) (o : Oper) : Option OR :=
  match o.op with
  | .move x | .assign x => opMove C T s x
  | .pick c a b => opPick C T s c a b
  | .alloc t => opAlloc C T s t
  | .box t x => opBox C T s t x
  | .build t parts => opBuild C T s t parts
  | .buildSlice t len parts => opBuildSlice C T s t len parts
  | .load t x => opLoad C T s t x
  | .store t x v => opStore C T s t x v
  | .nilCheck x => opNil C T s x
  | .binOp op t x y _ => opBin C T s op t x y
  | .unOp op _ x => opUn C T s op x
  | .convert st dt x => opConv C T s st dt x
  | .makeFunc f a b => opFunc C T s f a b
  | .makeSlice t l c => opMakeSlice C T s t l c
  | .slice t x lo hi none => opSlices C T s t x lo hi
  | .fieldAddr t x f => opFieldAddr C T s t x f
  | .field t x f => opField C T s t x f
  | .indexAddr t x i => opIndexAddr C T s t x i
  | .index t x i => opIndex C T s t x i
  | .extract x i => opExtract C T s x i
  | .makeMap t r => opMakeMap C T s t r
  | .lookup t x i ok => opLookup C T s t x i ok
  | .mapUpdate t x i v | .insert t x i v => opMapUpdate C T s t x i v
  | .mapEntry t x i => opMapEntry C T s t x i
  | .entryStore _ x i v => opEntryStore C T s x i v
  | .call { callee := .builtin b, args, argTypes } => opBuiltin C T s b args argTypes
  | _ => none

inductive Ex where
  | normal | exit (id : Nat) | ret
  deriving DecidableEq

def Ex.stays : Ex → Bool
  | .exit _ => false
  | _ => true

inductive Task where
  | call (f : Nat) (args : List CV)
  | code (c : Code) (nt : Nat) (T : Tr CV)

/-- What a task yields: a value, or how a statement was left and the temporaries. -/
inductive Res where
  | val (c : CV)
  | code (e : Ex) (T : Tr CV)

structure Out where
  res : Res
  s : St
  R : List Nat
  W : List Nat

def ins (b : Nat) (l : List Nat) : List Nat := bif l.any (Nat.beq b) then l else b :: l
def join (base : Nat) : List Nat → List Nat → List Nat
  | [], l => l
  | b :: r, l => bif Nat.blt b base then ins b (join base r l) else join base r l

/-- Whether a guarded operation is wanted. -/
def wants (ops : Array Oper) (T : Tr CV) (s : St) (o : Oper) : Option (Bool × St) :=
  match o.guard with
  | none => some (true, s)
  | some (j, want) => match (ops[j]?).bind (·.dst) with
    | none => some (false, s)
    | some t => match rd T t with
      | .bool e => match s.decide e with | some (v, s) => some (v == want, s) | none => none
      | .tup [] => some (false, s)
      | _ => none

def putT (nt : Nat) (T : Tr CV) (d : Option Tmp) (c : CV) : Option (Tr CV) :=
  match d with
  | none => some T
  | some d => bif Nat.blt d nt then some (T.set d c) else none

/-- Some temporaries are filled. -/
def putTs (nt : Nat) : Tr CV → List Tmp → List CV → Option (Tr CV)
  | T, [], [] => some T
  | T, d :: ds, c :: cs => bif Nat.blt d nt then putTs nt (T.set d c) ds cs else none
  | _, _, _ => none

/-- The jump that a round leaves pending. -/
def Ex.jump : Ex → Option Code
  | .normal => none
  | .exit i => some (.exit i)
  | .ret => some .ret

def Ex.of : Option Code → Option Ex
  | none => some .normal
  | some (.exit i) => some (.exit i)
  | some .ret => some .ret
  | _ => none

/-- A round of a range over a function. -/
def roundE (self : Task → St → Option Out) (s : St) (b : Nat) (vs : List CV) : Option OR :=
  match s.getX b with
  | some (.loop ⟨T0, nt, ps, assign, body, .ready, _⟩) =>
    match putTs nt T0 ps.toList vs with
    | none => none
    | some T1 =>
      match self (.code assign nt T1) s with
      | some ⟨.code .normal T2, s2, R1, W1⟩ =>
        match s2.getX b with
        | some (.loop ⟨T3, nt3, ps3, as3, bd3, .ready, pd3⟩) =>
          match self (.code body nt T2) (s2.setX b (.loop ⟨T3, nt3, ps3, as3, bd3, .busy, pd3⟩)) with
          | some ⟨.code e _, s4, R2, W2⟩ =>
            match s4.getX b with
            | some (.loop ⟨T5, nt5, ps5, as5, bd5, _, _⟩) =>
              some ⟨.bool (.c e.jump.isNone), s4.setX b (.loop ⟨T5, nt5, ps5, as5, bd5, bif e.jump.isNone then .ready else .done, e.jump⟩), b :: join s.next R1 (join s.next R2 []), b :: join s.next W1 (join s.next W2 [])⟩
            | _ => none
          | _ => none
        | _ => none
      | _ => none
  | _ => none

/-- One operation, wanted or not. -/
def oneE (C : Ctx) (self : Task → St → Option Out) (ops : Array Oper) (T : Tr CV) (s : St) (o : Oper) : Option OR :=
  match wants ops T s o with
  | none => none
  | some (false, s) => some ⟨undefC, s, [], []⟩
  | some (true, s) =>
    match o.op with
    | .call { callee := .value f, args, argTypes } =>
      match ev T f, evs T args.toList with
      | some (.fn (.func g) first captured), some vs =>
        match self (.call g (first ++ vs ++ captured)) s with
        | some ⟨.val c, s, R, W⟩ => some ⟨c, s, R, W⟩
        | _ => none
      | some (.yld b), some vs => roundE self s b vs
      | _, _ => none
    | _ => opE C T s o

/-- What an operation did to memory: the blocks that it read and wrote, the numbers that it made. -/
structure Mk where
  R : List Nat
  W : List Nat
  lo : Nat
  hi : Nat

def allLt (n : Nat) (l : List Nat) : Bool := l.all fun b => Nat.blt b n

/-- A region's operations in the order of the text; what each one did to memory. -/
def opsE (C : Ctx) (self : Task → St → Option Out) (ops : Array Oper) (nt : Nat) : List Oper → Tr CV → St → Option (Tr CV × St × List Mk)
  | [], T, s => some (T, s, [])
  | o :: l, T, s =>
    match oneE C self ops T s o with
    | none => none
    | some r =>
      match putT nt T o.dst r.val with
      | none => none
      | some T' => match opsE C self ops nt l T' r.s with
        | none => none
        | some (T'', s'', ms) => some (T'', s'', ⟨r.R, r.W, s.next, r.s.next⟩ :: ms)

def apartL (l m : List Nat) : Bool := l.all fun a => !m.any (Nat.beq a)
def outside (lo hi : Nat) (l : List Nat) : Bool := l.all fun b => Nat.blt b lo || Nat.ble hi b

def predM (acc : List Nat) : List Edge → Nat
  | [] => 0
  | e :: l => bif Region.binds .any e then (1 <<< e.on) ||| (match acc[e.on]? with | some m => m | none => 0) ||| predM acc l else predM acc l

/-- Which operations come before each operation, as bits. -/
def preds : List Oper → List Nat → List Nat
  | [], acc => acc
  | o :: l, acc => preds l (acc ++ [predM acc o.after.toList])

/-- Two operations without an order do not meet in memory. -/
def apartMk (m n : Mk) : Bool := apartL m.W n.R && apartL m.W n.W && apartL m.R n.W && outside m.lo m.hi n.R && outside m.lo m.hi n.W
def drawOk1 (i : Nat) (m : Mk) : List Mk → List Nat → Bool
  | n :: ns, p :: ps => (Nat.testBit p i || apartMk m n) && drawOk1 i m ns ps
  | _, _ => true
def drawOk : Nat → List Mk → List Nat → Bool
  | i, m :: ms, _ :: ps => drawOk1 i m ms ps && drawOk (i + 1) ms ps
  | _, _, _ => true

/-- Nothing is written, and nothing is read that was not there before. -/
def quietB (n : Nat) (ms : List Mk) : Bool := ms.all fun m => m.W.isEmpty && (Nat.beq m.lo n || allLt n m.R)

def sumR (base : Nat) : List Mk → List Nat
  | [] => []
  | m :: l => join base m.R (sumR base l)
def sumW (base : Nat) : List Mk → List Nat
  | [] => []
  | m :: l => join base m.W (sumW base l)

def resE (C : Ctx) (T : Tr CV) (s : St) : List ResultVar → Option (List CV × List Nat)
  | [] => some ([], [])
  | .tmp t :: l => match resE C T s l with | some (m, R) => some (rd T t :: m, R) | none => none
  | .cell a t :: l => match C.ty t, rd T a, resE C T s l with
    | some r, .ptr (some (b, o)), some (m, R) =>
      bif r.agg then match s.ld b o r.size with | some x => some (.agg x :: m, b :: R) | none => none
      else match s.ld b o 1 with | some [c] => some (c :: m, b :: R) | _ => none
    | _, _, _ => none

/-- One result as it is, several as a tuple. -/
def tupC : List CV → CV
  | [v] => v
  | vs => .tup vs

def args0 : Nat → List CV → Tr CV → Tr CV
  | _, [], T => T
  | i, c :: l, T => args0 (i + 1) l (T.set i c)

mutual
/-- A value that names no block. -/
def CV.plain : CV → Bool
  | .bool _ | .int _ _ | .raw _ | .ptr none | .slc none _ _ | .emp | .junk | .any => true
  | .agg l | .tup l => CV.plains l
  | _ => false
def CV.plains : List CV → Bool
  | [] => true
  | c :: l => c.plain && CV.plains l
end

/-- A call's end: where nothing old was written and the value names no block, all that it made is forgotten. -/
def endE (s s' : St) (c : CV) (R W : List Nat) : Out :=
  bif W.isEmpty && c.plain then ⟨.val c, { s' with heap := s.heap }, R, []⟩ else ⟨.val c, s', R, W⟩

def bodyE (C : Ctx) (self : Nat → Task → St → Option Out) (f : Nat) (args : List CV) (s : St) : Option Out :=
  match C.fn f with
  | none => none
  | some fn => match fn.body with
    | none => none
    | some c =>
      bif Nat.ble args.length fn.ntmps then
        match self s.next (.code c fn.ntmps (args0 0 args .nil)) s with
        | some ⟨.code e T, s', R, W⟩ =>
          bif e.stays then
            match resE C T s' fn.results.toList with
            | some (vs, R') => some (endE s s' (tupC vs) (join s.next R' R) W)
            | none => none
          else none
        | _ => none
      else none

def callE (C : Ctx) (self : Nat → Task → St → Option Out) (f : Nat) (args : List CV) (s : St) : Option Out :=
  match C.memo f args s with
  | some (c, s', R, W) => some ⟨.val c, s', R, W⟩
  | none => bodyE C self f args s

def seqE (base : Nat) (self : Nat → Task → St → Option Out) (a b : Code) (nt : Nat) (T : Tr CV) (s : St) : Option Out :=
  match self base (.code a nt T) s with
  | some ⟨.code .normal T1, s1, R1, W1⟩ =>
    match self base (.code b nt T1) s1 with
    | some ⟨.code e T2, s2, R2, W2⟩ => some ⟨.code e T2, s2, join base R1 R2, join base W1 W2⟩
    | _ => none
  | some r => some r
  | none => none

def condE (base : Nat) (self : Nat → Task → St → Option Out) (c : Operand) (x y : Code) (nt : Nat) (T : Tr CV) (s : St) : Option Out :=
  match ev T c with
  | some (.bool e) => match s.decide e with
    | some (t, s) => self base (.code (bif t then x else y) nt T) s
    | none => none
  | _ => none

def blockE (base : Nat) (self : Nat → Task → St → Option Out) (i : Nat) (b : Code) (nt : Nat) (T : Tr CV) (s : St) : Option Out :=
  match self base (.code b nt T) s with
  | some ⟨.code (.exit j) T1, s1, R1, W1⟩ => some ⟨.code (bif Nat.beq j i then .normal else .exit j) T1, s1, R1, W1⟩
  | r => r

def loopE (base : Nat) (self : Nat → Task → St → Option Out) (b : Code) (nt : Nat) (T : Tr CV) (s : St) : Option Out :=
  match self base (.code b nt T) s with
  | some ⟨.code .normal T1, s1, R1, W1⟩ =>
    match self base (.code (.loop b) nt T1) s1 with
    | some ⟨.code e T2, s2, R2, W2⟩ => some ⟨.code e T2, s2, join base R1 R2, join base W1 W2⟩
    | _ => none
  | r => r

def regionE (C : Ctx) (base : Nat) (self : Nat → Task → St → Option Out) (ops : Array Oper) (draw : Bool) (nt : Nat) (T : Tr CV) (s : St) : Option Out :=
  match opsE C (fun t s => self s.next t s) ops nt ops.toList T s with
  | none => none
  | some (T', s', ms) =>
    bif !draw || quietB s.next ms || drawOk 0 ms (preds ops.toList []) then some ⟨.code .normal T', s', sumR base ms, sumW base ms⟩ else none

/-- A range over a function. -/
def rangeE (base : Nat) (self : Nat → Task → St → Option Out) (f : Operand) (ps : Array Tmp) (assign body : Code) (nt : Nat) (T : Tr CV) (s : St) : Option Out :=
  match ev T f with
  | some (.fn (.func g) first captured) =>
    match self (s.next + 1) (.call g (first ++ [.yld s.next] ++ captured)) (s.newX (.loop ⟨T, nt, ps, assign, body, .ready, none⟩)) with
    | some ⟨.val _, s2, R, W⟩ =>
      match s2.getX s.next with
      | some (.loop ⟨T5, nt5, ps5, as5, bd5, st5, pd5⟩) =>
        match st5, Ex.of pd5 with
        | .busy, _ => none
        | _, some e => some ⟨.code e T, s2.setX s.next (.loop ⟨T5, nt5, ps5, as5, bd5, .exhausted, pd5⟩), join base R [], join base W []⟩
        | _, none => none
      | _ => none
    | _ => none
  | _ => none

def codeE (C : Ctx) (base : Nat) (self : Nat → Task → St → Option Out) (c : Code) (nt : Nat) (T : Tr CV) (s : St) : Option Out :=
  match c with
  | .skip | .label _ => some ⟨.code .normal T, s, [], []⟩
  | .ret => some ⟨.code .ret T, s, [], []⟩
  | .exit i => some ⟨.code (.exit i) T, s, [], []⟩
  | .seq a b => seqE base self a b nt T s
  | .cond c x y => condE base self c x y nt T s
  | .block i b => blockE base self i b nt T s
  | .scope b => self base (.code b nt T) s
  | .loop b => loopE base self b nt T s
  | .region _ ops draw => regionE C base self ops draw nt T s
  | .rangeFunc f ps assign body => rangeE base self f ps assign body nt T s
  | _ => none

def stepE (C : Ctx) (base : Nat) (self : Nat → Task → St → Option Out) : Task → St → Option Out
  | .call f args, s => callE C self f args s
  | .code c nt T, s => codeE C base self c nt T s

def eval (C : Ctx) : Nat → Nat → Task → St → Option Out
  | 0 => fun _ _ _ => none
  | n + 1 => fun base t s => stepE C base (eval C n) t s

/-- What the program's own tables say of a type. -/
def tyOf (P : Program) (t : Nat) : Option TyR :=
  match P.underlying t, P.info? t with
  | some d, some i => match i.zero with
    | some z => match CV.ofVals z.cells.toList with
      | some l => bif Nat.beq l.length i.size then some ⟨d, i.size, i.bytes, l, match d with | .struct _ | .array _ _ => true | _ => false⟩ else none
      | none => none
    | none => none
  | _, _ => none

/-- What the cells of a type are whose == compares cell by cell. -/
def eqTy (P : Program) : Nat → TypeId → Option (List (Option IntKind))
  | 0, _ => none
  | d + 1, t =>
    match P.underlying t, P.info? t with
    | some (.int k), some i => bif Nat.beq i.size 1 then some [some k] else none
    | some .bool, some i => bif Nat.beq i.size 1 then some [none] else none
    | some (.struct fs), some i =>
      bif P.stoodInHeld t then none else
      match eqFs P (eqTy P d) 0 fs.toList with
      | some ks => bif Nat.beq i.size ks.length then some ks else none
      | none => none
    | some (.array n e), some i =>
      match eqTy P d e with
      | some ks => bif Nat.beq i.size (n * ks.length) then some (List.replicate n ks).flatten else none
      | none => none
    | _, _ => none
where
  eqFs (P : Program) (f : TypeId → Option (List (Option IntKind))) : Nat → List Field → Option (List (Option IntKind))
    | _, [] => some []
    | off, fd :: l =>
      match f fd.type with
      | some ks => bif Nat.beq fd.offset off && fd.name != "_" then
          match eqFs P f (off + ks.length) l with
          | some m => some (ks ++ m)
          | none => none
        else none
      | none => none

def eqOf (P : Program) (t : TypeId) : Option (List (Option IntKind)) := bif P.eqGuardType P.depth t then none else eqTy P 12 t

def St.empty : St := ⟨.nil, 0, [], []⟩

end
end Go.Proofs.Ytknphpihipkdpaa.Cx
