/- An evaluator for Go functions over canonical memory with symbolic integers: its data, its memory, and what it means that a real value, a real world stands for them. -/
import Derived.LoopN
import Derived.Scope
import Derived.Orders
import Derived.Laws.CopyRow
import Derived.Laws.Entries
import Derived.Below
set_option linter.unusedSimpArgs false
set_option linter.unusedVariables false
namespace Go.Proofs.Ytknphpihipkdpaa.Cx
open Go Go.RowKit

/-! ## Numbers and tests -/

inductive Ar where
  | add | sub | mul | quo | rem | and | or | xor | andNot | shl | shr | mn | mx | conv | gcd
  deriving DecidableEq

inductive Cm where
  | eql | neq | lss | leq | gtr | geq
  deriving DecidableEq

def Ar.run (o : Ar) (k : IntKind) (x y : Int) : Int :=
  match o with
  | .add => k.wrap (x + y)
  | .sub => k.wrap (x - y)
  | .mul => k.wrap (x * y)
  | .quo => k.wrap (x.tdiv y)
  | .rem => x.tmod y
  | .and => k.wrap (BitVec.ofInt k.bits x &&& BitVec.ofInt k.bits y).toNat
  | .or => k.wrap (BitVec.ofInt k.bits x ||| BitVec.ofInt k.bits y).toNat
  | .xor => k.wrap (BitVec.ofInt k.bits x ^^^ BitVec.ofInt k.bits y).toNat
  | .andNot => k.wrap (BitVec.ofInt k.bits x &&& ~~~(BitVec.ofInt k.bits y)).toNat
  | .shl => k.wrap (x * 2 ^ min y.toNat k.bits)
  | .shr => x.fdiv (2 ^ min y.toNat k.bits)
  | .mn => if y < x then y else x
  | .mx => if y > x then y else x
  | .conv => k.wrap x
  | .gcd => (Int.gcd x y : Int)

def Cm.run (o : Cm) (x y : Int) : Bool :=
  match o with
  | .eql => x == y
  | .neq => x != y
  | .lss => decide (x < y)
  | .leq => decide (x ≤ y)
  | .gtr => decide (x > y)
  | .geq => decide (x ≥ y)

inductive IE where
  | c (n : Int)
  | v (i : Nat)
  | bin (o : Ar) (k : IntKind) (a b : IE)
  /-- a number as it stands in Lean -/
  | x (n : Int)
  deriving DecidableEq

inductive BE where
  | c (b : Bool)
  | v (i : Nat)
  | cmp (o : Cm) (a b : IE)
  | not (b : BE)
  /-- a test as it stands in Lean -/
  | x (b : Bool)
  deriving DecidableEq

/-- What the variables stand for. -/
structure Env where
  i : Nat → Int
  b : Nat → Bool

def IE.den (ρ : Env) : IE → Int
  | .c n => n
  | .v i => ρ.i i
  | .bin o k a b => o.run k (a.den ρ) (b.den ρ)
  | .x n => n

def BE.den (ρ : Env) : BE → Bool
  | .c b => b
  | .v i => ρ.b i
  | .cmp o a b => o.run (a.den ρ) (b.den ρ)
  | .not b => !b.den ρ
  | .x b => b

def IE.mk (o : Ar) (k : IntKind) : IE → IE → IE
  | .c p, .c q => .c (o.run k p q)
  | .x p, .x q => .x (o.run k p q)
  | .x p, .c q => .x (o.run k p q)
  | .c p, .x q => .x (o.run k p q)
  | a, b => .bin o k a b

def BE.mk (o : Cm) : IE → IE → BE
  | .c p, .c q => .c (o.run p q)
  | .x p, .x q => .x (o.run p q)
  | .x p, .c q => .x (o.run p q)
  | .c p, .x q => .x (o.run p q)
  | a, b => bif decide (a = b) then .c (match o with | .eql | .leq | .geq => true | _ => false) else
    match o with
    | .eql => .cmp .eql a b
    | .neq => .not (.cmp .eql a b)
    | .leq => .cmp .leq a b
    | .geq => .cmp .leq b a
    | .gtr => .not (.cmp .leq a b)
    | .lss => .not (.cmp .leq b a)

def BE.neg : BE → BE
  | .c b => .c !b
  | .not b => b
  | .x b => .x !b
  | b => .not b

theorem IE.den_mk (ρ : Env) (o : Ar) (k : IntKind) (a b : IE) : (IE.mk o k a b).den ρ = o.run k (a.den ρ) (b.den ρ) := by
  unfold IE.mk; split <;> rfl
theorem BE.den_mk (ρ : Env) (o : Cm) (a b : IE) : (BE.mk o a b).den ρ = o.run (a.den ρ) (b.den ρ) := by
  unfold BE.mk
  split
  · rfl
  · rfl
  · rfl
  · rfl
  · cases hd : decide (a = b) with
    | true =>
      rw [cond_true]
      have := of_decide_eq_true hd
      subst this
      cases o <;> simp [BE.den, Cm.run]
    | false =>
      rw [cond_false]
      cases o
      case eql => rfl
      case leq => rfl
      case neq => simp [BE.den, Cm.run, bne]
      case geq => simp [BE.den, Cm.run]
      case gtr => simp only [BE.den, Cm.run]; by_cases h : IE.den ρ a ≤ IE.den ρ b <;> simp [h] <;> omega
      case lss => simp only [BE.den, Cm.run]; by_cases h : IE.den ρ b ≤ IE.den ρ a <;> simp [h] <;> omega
theorem BE.den_neg (ρ : Env) (b : BE) : b.neg.den ρ = !b.den ρ := by
  unfold BE.neg; split <;> simp [BE.den]

/-- A fact that the way that is taken rests on. -/
inductive PC where
  | b (c : BE) (v : Bool)
  deriving DecidableEq

def PC.holds (ρ : Env) : PC → Prop
  | .b c v => c.den ρ = v

/-- Small numbers of terms and tests: different ones are different terms, which is seen at once. -/
def Ar.key : Ar → Nat
  | .add => 1 | .sub => 2 | .mul => 3 | .quo => 4 | .rem => 5 | .and => 6 | .or => 7 | .xor => 8 | .andNot => 9 | .shl => 10 | .shr => 11 | .mn => 12 | .mx => 13 | .conv => 14 | .gcd => 15
def Int.key' : Int → Nat
  | .ofNat n => Nat.mul 2 n
  | .negSucc n => Nat.add (Nat.mul 2 n) 1
noncomputable def IE.key (e : IE) : Nat :=
  IE.rec (motive := fun _ => Nat) (fun n => Nat.mul 3 (Int.key' n)) (fun i => Nat.add (Nat.mul 3 i) 1) (fun o _ _ _ x y => Nat.mod (Nat.add (Nat.mul 1000003 x) (Nat.add (Nat.mul 7919 y) (Nat.add (Nat.mul 31 o.key) 2))) 1000000007) (fun _ => 7) e
noncomputable def BE.key (e : BE) : Nat :=
  BE.rec (motive := fun _ => Nat) (fun b => Bool.rec 2 1 b) (fun i => Nat.mul 3 i) (fun _ a b => Nat.add a.key (Nat.mul 65537 b.key)) (fun _ x => Nat.add x 5) (fun _ => 7) e

/-- What is known of a test already. -/
noncomputable def PC.findK (b : BE) (k : Nat) : List PC → Option Bool
  | [] => none
  | .b c v :: l => bif Nat.beq c.key k then (bif decide (c = b) then some v else PC.findK b k l) else PC.findK b k l
noncomputable def PC.find (b : BE) (l : List PC) : Option Bool := PC.findK b b.key l

noncomputable def PC.findNK (e : IE) (k : Nat) : List PC → Option Int
  | [] => none
  | .b (.cmp .eql a (.c n)) true :: l => bif Nat.beq a.key k then (bif decide (a = e) then some n else PC.findNK e k l) else PC.findNK e k l
  | _ :: l => PC.findNK e k l
noncomputable def PC.findN (e : IE) (l : List PC) : Option Int := PC.findNK e e.key l

theorem PC.findK_holds {ρ : Env} {b : BE} {k : Nat} {v : Bool} : ∀ {l : List PC}, PC.findK b k l = some v → (∀ p ∈ l, p.holds ρ) → b.den ρ = v
  | [], h, _ => by cases h
  | .b c u :: l, h, hp => by
    have rest : PC.findK b k l = some v → b.den ρ = v := fun h => PC.findK_holds h fun p hp' => hp p (by simp [hp'])
    simp only [PC.findK] at h
    cases hk : Nat.beq c.key k with
    | false => rw [hk, cond_false] at h; exact rest h
    | true =>
      rw [hk, cond_true] at h
      cases hd : decide (c = b) with
      | true =>
        rw [hd, cond_true] at h
        cases h
        rw [← of_decide_eq_true hd]
        exact hp (.b c v) (by simp)
      | false => rw [hd, cond_false] at h; exact rest h
theorem PC.find_holds {ρ : Env} {b : BE} {v : Bool} {l : List PC} (h : PC.find b l = some v) (hp : ∀ p ∈ l, p.holds ρ) : b.den ρ = v := PC.findK_holds h hp

theorem PC.findNK_holds {ρ : Env} {e : IE} {k : Nat} {n : Int} : ∀ {l : List PC}, PC.findNK e k l = some n → (∀ p ∈ l, p.holds ρ) → e.den ρ = n
  | [], h, _ => by cases h
  | q :: l, h, hp => by
    have rest : PC.findNK e k l = some n → e.den ρ = n := fun h => PC.findNK_holds h fun p hp' => hp p (by simp [hp'])
    unfold PC.findNK at h
    split at h
    · cases h
    · rename_i a m l' heq
      cases heq
      cases hk : Nat.beq a.key k with
      | false => rw [hk, cond_false] at h; exact rest h
      | true =>
        rw [hk, cond_true] at h
        cases hd : decide (a = e) with
        | true =>
          rw [hd, cond_true] at h
          cases h
          rw [← of_decide_eq_true hd]
          have := hp (.b (.cmp .eql a (.c n)) true) (by simp)
          simpa [PC.holds, BE.den, Cm.run, IE.den] using this
        | false => rw [hd, cond_false] at h; exact rest h
    · rename_i heq
      cases heq
      exact rest h
theorem PC.findN_holds {ρ : Env} {e : IE} {n : Int} {l : List PC} (h : PC.findN e l = some n) (hp : ∀ p ∈ l, p.holds ρ) : e.den ρ = n := PC.findNK_holds h hp

/-! ## A tree of what is kept under numbers -/

inductive Tr (α : Type) where
  | nil
  | node (l : Tr α) (v : Option α) (r : Tr α)

noncomputable def Tr.get {α : Type} (t : Tr α) : Nat → Option α :=
  Tr.rec (motive := fun _ => Nat → Option α) (fun _ => none) (fun _ v _ gl gr n => Nat.rec (motive := fun _ => Option α) v (fun m _ => Bool.rec (gr (m / 2)) (gl (m / 2)) (Nat.beq (m % 2) 0)) n) t

noncomputable def Tr.put {α : Type} (x : α) (f : Nat) : Nat → Tr α → Tr α :=
  Nat.rec (motive := fun _ => Nat → Tr α → Tr α) (fun _ t => Tr.rec (motive := fun _ => Tr α) (.node .nil (some x) .nil) (fun l _ r _ _ => .node l (some x) r) t)
    (fun _ go n => Nat.rec (motive := fun _ => Tr α → Tr α) (fun t => Tr.rec (motive := fun _ => Tr α) (.node .nil (some x) .nil) (fun l _ r _ _ => .node l (some x) r) t)
      (fun m _ t => Tr.rec (motive := fun _ => Tr α) (Bool.rec (.node .nil none (go (m / 2) .nil)) (.node (go (m / 2) .nil) none .nil) (Nat.beq (m % 2) 0)) (fun l v r _ _ => Bool.rec (.node l v (go (m / 2) r)) (.node (go (m / 2) l) v r) (Nat.beq (m % 2) 0)) t) n) f

noncomputable def Tr.set {α : Type} (t : Tr α) (n : Nat) (x : α) : Tr α := Tr.put x n n t

theorem Tr.get_nil {α : Type} (n : Nat) : (Tr.nil : Tr α).get n = none := rfl

theorem Tr.get_node {α : Type} (l : Tr α) (v : Option α) (r : Tr α) (m : Nat) : (Tr.node l v r).get (m + 1) = bif Nat.beq (m % 2) 0 then l.get (m / 2) else r.get (m / 2) := by
  show (Bool.rec (r.get (m / 2)) (l.get (m / 2)) (Nat.beq (m % 2) 0) : Option α) = _
  cases Nat.beq (m % 2) 0 <;> rfl
theorem Tr.get_zero {α : Type} (l : Tr α) (v : Option α) (r : Tr α) : (Tr.node l v r).get 0 = v := rfl
theorem Tr.put_zero {α : Type} (x : α) (n : Nat) (t : Tr α) : Tr.put x 0 n t = match t with | .nil => .node .nil (some x) .nil | .node l _ r => .node l (some x) r := by cases t <;> rfl
theorem Tr.put_succ_zero {α : Type} (x : α) (f : Nat) (t : Tr α) : Tr.put x (f + 1) 0 t = match t with | .nil => .node .nil (some x) .nil | .node l _ r => .node l (some x) r := by cases t <;> rfl
theorem Tr.put_nil {α : Type} (x : α) (f m : Nat) : Tr.put x (f + 1) (m + 1) .nil = bif Nat.beq (m % 2) 0 then .node (Tr.put x f (m / 2) .nil) none .nil else .node .nil none (Tr.put x f (m / 2) .nil) := by
  show (Bool.rec (Tr.node .nil none (Tr.put x f (m / 2) .nil)) (.node (Tr.put x f (m / 2) .nil) none .nil) (Nat.beq (m % 2) 0) : Tr α) = _
  cases Nat.beq (m % 2) 0 <;> rfl
theorem Tr.put_node {α : Type} (x : α) (f m : Nat) (l : Tr α) (v : Option α) (r : Tr α) : Tr.put x (f + 1) (m + 1) (.node l v r) = bif Nat.beq (m % 2) 0 then .node (Tr.put x f (m / 2) l) v r else .node l v (Tr.put x f (m / 2) r) := by
  show (Bool.rec (Tr.node l v (Tr.put x f (m / 2) r)) (.node (Tr.put x f (m / 2) l) v r) (Nat.beq (m % 2) 0) : Tr α) = _
  cases Nat.beq (m % 2) 0 <;> rfl

theorem Tr.get_put {α : Type} (x : α) : ∀ (f n : Nat) (t : Tr α) (k : Nat), n ≤ f → (Tr.put x f n t).get k = if k = n then some x else t.get k
  | 0, n, t, k, h => by
    obtain rfl : n = 0 := by omega
    rw [Tr.put_zero]
    cases t <;> cases k <;> simp [Tr.get_node, Tr.get_zero, Tr.get_nil]
  | f + 1, 0, t, k, h => by
    rw [Tr.put_succ_zero]
    cases t <;> cases k <;> simp [Tr.get_node, Tr.get_zero, Tr.get_nil]
  | f + 1, m + 1, t, k, h => by
    have ih := fun t k => Tr.get_put x f (m / 2) t k (by omega)
    have key : ∀ k', (k' + 1 = m + 1) ↔ (k' % 2 = m % 2 ∧ k' / 2 = m / 2) := fun k' => by omega
    cases t with
    | nil =>
      cases k with
      | zero => rw [Tr.put_nil]; cases hm : Nat.beq (m % 2) 0 <;> simp [Tr.get_zero, Tr.get_nil]
      | succ k =>
        rw [Tr.put_nil]
        by_cases hm : m % 2 = 0
        · have e1 : Nat.beq (m % 2) 0 = true := by rw [hm]; rfl
          rw [e1, cond_true, Tr.get_node]
          by_cases hk : k % 2 = 0
          · have e2 : Nat.beq (k % 2) 0 = true := by rw [hk]; rfl
            rw [e2, cond_true, ih, Tr.get_nil, Tr.get_nil]
            by_cases e : k / 2 = m / 2
            · rw [if_pos e, if_pos ((key k).2 ⟨by omega, e⟩)]
            · rw [if_neg e, if_neg fun h => e ((key k).1 h).2]
          · have e2 : Nat.beq (k % 2) 0 = false := by rw [show k % 2 = 1 by omega]; rfl
            rw [e2, cond_false, Tr.get_nil, Tr.get_nil, if_neg fun h => by have := (key k).1 h; omega]
        · have e1 : Nat.beq (m % 2) 0 = false := by rw [show m % 2 = 1 by omega]; rfl
          rw [e1, cond_false, Tr.get_node]
          by_cases hk : k % 2 = 0
          · have e2 : Nat.beq (k % 2) 0 = true := by rw [hk]; rfl
            rw [e2, cond_true, Tr.get_nil, Tr.get_nil, if_neg fun h => by have := (key k).1 h; omega]
          · have e2 : Nat.beq (k % 2) 0 = false := by rw [show k % 2 = 1 by omega]; rfl
            rw [e2, cond_false, ih, Tr.get_nil, Tr.get_nil]
            by_cases e : k / 2 = m / 2
            · rw [if_pos e, if_pos ((key k).2 ⟨by omega, e⟩)]
            · rw [if_neg e, if_neg fun h => e ((key k).1 h).2]
    | node l v r =>
      cases k with
      | zero => rw [Tr.put_node]; cases hm : Nat.beq (m % 2) 0 <;> simp [Tr.get_zero]
      | succ k =>
        rw [Tr.put_node]
        by_cases hm : m % 2 = 0
        · have e1 : Nat.beq (m % 2) 0 = true := by rw [hm]; rfl
          rw [e1, cond_true, Tr.get_node, Tr.get_node]
          by_cases hk : k % 2 = 0
          · have e2 : Nat.beq (k % 2) 0 = true := by rw [hk]; rfl
            rw [e2, cond_true, cond_true, ih]
            by_cases e : k / 2 = m / 2
            · rw [if_pos e, if_pos ((key k).2 ⟨by omega, e⟩)]
            · rw [if_neg e, if_neg fun h => e ((key k).1 h).2]
          · have e2 : Nat.beq (k % 2) 0 = false := by rw [show k % 2 = 1 by omega]; rfl
            rw [e2, cond_false, cond_false, if_neg fun h => by have := (key k).1 h; omega]
        · have e1 : Nat.beq (m % 2) 0 = false := by rw [show m % 2 = 1 by omega]; rfl
          rw [e1, cond_false, Tr.get_node, Tr.get_node]
          by_cases hk : k % 2 = 0
          · have e2 : Nat.beq (k % 2) 0 = true := by rw [hk]; rfl
            rw [e2, cond_true, cond_true, if_neg fun h => by have := (key k).1 h; omega]
          · have e2 : Nat.beq (k % 2) 0 = false := by rw [show k % 2 = 1 by omega]; rfl
            rw [e2, cond_false, cond_false, ih]
            by_cases e : k / 2 = m / 2
            · rw [if_pos e, if_pos ((key k).2 ⟨by omega, e⟩)]
            · rw [if_neg e, if_neg fun h => e ((key k).1 h).2]

theorem Tr.get_set {α : Type} (t : Tr α) (n : Nat) (x : α) (k : Nat) : (t.set n x).get k = if k = n then some x else t.get k := Tr.get_put x n n t k (Nat.le_refl _)

/-! ## Values -/

inductive CV where
  | bool (b : BE)
  | int (k : IntKind) (e : IE)
  /-- a value that holds no address (a string, a nil) -/
  | raw (v : Value)
  | ptr (a : Option (Nat × Nat))
  | slc (a : Option (Nat × Nat)) (len cap : Nat)
  /-- a slice of a block of rows of z cells, from a row: the numbers as they stand in Lean -/
  | slx (b z o len cap : Nat)
  /-- a slice of rows that is read alone -/
  | sla (b z o len : Nat)
  /-- a slice that is only measured -/
  | sln (e : IE)
  /-- a slice that is read alone, at places that are known: each of its first N rows of z cells is a block of its own, from b on -/
  | slr (b z N : Nat) (e : IE)
  /-- a cell of a row of z cells: the row's number as it stands in Lean -/
  | ptx (b z j f : Nat)
  /-- anything that takes one cell -/
  | junk
  /-- anything -/
  | any
  /-- an empty slice that is not nil, at an unknown place -/
  | emp
  | fn (f : Fn) (first captured : List CV)
  | agg (l : List CV)
  | tup (l : List CV)
  /-- the function that a range over a function hands to its iterator: a round of the loop whose record is this block -/
  | yld (b : Nat)
  /-- a map that is not nil -/
  | map (b : Nat)

/-- Where a block lies: its real block, the cell at which it begins there, how many cells that block has, and how many an element of slices of it has. -/
structure Loc where
  blk : Nat
  base : Nat
  size : Nat
  esz : Nat

abbrev Mp := Nat → Option Loc

mutual
/-- A real value stands for a canonical one. -/
inductive VR (ρ : Env) (σ : Mp) : CV → Value → Prop
  | bool (b : BE) : VR ρ σ (.bool b) (.bool (b.den ρ))
  | int (k : IntKind) (e : IE) : VR ρ σ (.int k e) (.int k (e.den ρ))
  | raw (v : Value) : VR ρ σ (.raw v) v
  | ptr0 : VR ρ σ (.ptr none) (.pointer none)
  | ptr {b o : Nat} {l : Loc} (h : σ b = some l) : VR ρ σ (.ptr (some (b, o))) (.pointer (some ⟨l.blk, l.base + o, none⟩))
  | slc0 : VR ρ σ (.slc none 0 0) (.slice none 0 0)
  | slc {b o n c c' : Nat} {l : Loc} (h : σ b = some l) (hc : c ≤ c') (hs : l.base + o + c' * l.esz ≤ l.size) : VR ρ σ (.slc (some (b, o)) n c) (.slice (some ⟨l.blk, l.base + o, none⟩) n c')
  | slx {b z o n c : Nat} {v : Value} (h : VR ρ σ (.slc (some (b, o * z)) n c) v) : VR ρ σ (.slx b z o n c) v
  | sla {b z o n c' : Nat} {l : Loc} (h : σ b = some l) (hc : n ≤ c') : VR ρ σ (.sla b z o n) (.slice (some ⟨l.blk, l.base + o * z, none⟩) n c')
  | sla0 {b z o : Nat} (a : Option Addr) (c' : Nat) : VR ρ σ (.sla b z o 0) (.slice a 0 c')
  | sln {e : IE} {n : Nat} (a : Option Addr) (c' : Nat) (h : e.den ρ = n) : VR ρ σ (.sln e) (.slice a n c')
  | slr {b z N n : Nat} {e : IE} (a : Option Addr) (c' : Nat) (h : e.den ρ = n) (hr : ∀ i, i < n → i < N → ∃ (l : Loc) (o : Nat), a = some ⟨l.blk, o, none⟩ ∧ l.base = o + i * z ∧ σ (b + i) = some l) : VR ρ σ (.slr b z N e) (.slice a n c')
  | ptx {b z j f : Nat} {v : Value} (h : VR ρ σ (.ptr (some (b, j * z + f))) v) : VR ρ σ (.ptx b z j f) v
  | junk {v : Value} (h : v.oneCell' = true) : VR ρ σ .junk v
  | any (v : Value) : VR ρ σ .any v
  | emp (a : Addr) (c' : Nat) : VR ρ σ .emp (.slice (some a) 0 c')
  | fn (f : Fn) {a b : List CV} {a' b' : Array Value} (ha : VRl ρ σ a a'.toList) (hb : VRl ρ σ b b'.toList) : VR ρ σ (.fn f a b) (.func f a' b')
  | agg {l : List CV} {cs : Array Value} (h : VRl ρ σ l cs.toList) : VR ρ σ (.agg l) (.agg cs)
  | tup {l : List CV} {cs : Array Value} (h : VRl ρ σ l cs.toList) : VR ρ σ (.tup l) (.tuple cs)
  | yld {b : Nat} {l : Loc} (h : σ b = some l) : VR ρ σ (.yld b) (.func (.yield l.blk) #[] #[])
  | map {b : Nat} {l : Loc} (h : σ b = some l) : VR ρ σ (.map b) (.map (some l.blk))
inductive VRl (ρ : Env) (σ : Mp) : List CV → List Value → Prop
  | nil : VRl ρ σ [] []
  | cons {c : CV} {v : Value} {l : List CV} {m : List Value} (h : VR ρ σ c v) (t : VRl ρ σ l m) : VRl ρ σ (c :: l) (v :: m)
end

/-- One map goes on another. -/
def Mp.le (σ τ : Mp) : Prop := ∀ b l, σ b = some l → τ b = some l

mutual
theorem VR.mono {ρ : Env} {σ τ : Mp} (hl : σ.le τ) {c : CV} {v : Value} : VR ρ σ c v → VR ρ τ c v
  | .bool b => .bool b
  | .int k e => .int k e
  | .raw v => .raw v
  | .ptr0 => .ptr0
  | .ptr h => .ptr (hl _ _ h)
  | .slc0 => .slc0
  | .slc h hc hs => .slc (hl _ _ h) hc hs
  | .slx h => .slx (VR.mono hl h)
  | .sla h hc => .sla (hl _ _ h) hc
  | .sla0 a c => .sla0 a c
  | .sln a c h => .sln a c h
  | .slr a c h hr => .slr a c h fun i h1 h2 => let ⟨l, o, q1, q2, q3⟩ := hr i h1 h2; ⟨l, o, q1, q2, hl _ _ q3⟩
  | .ptx h => .ptx (VR.mono hl h)
  | .junk h => .junk h
  | .any v => .any v
  | .emp a c => .emp a c
  | .fn f ha hb => .fn f (VRl.mono hl ha) (VRl.mono hl hb)
  | .agg h => .agg (VRl.mono hl h)
  | .tup h => .tup (VRl.mono hl h)
  | .yld h => .yld (hl _ _ h)
  | .map h => .map (hl _ _ h)
theorem VRl.mono {ρ : Env} {σ τ : Mp} (hl : σ.le τ) {c : List CV} {v : List Value} : VRl ρ σ c v → VRl ρ τ c v
  | .nil => .nil
  | .cons h t => .cons (VR.mono hl h) (VRl.mono hl t)
end

theorem VRl.length {ρ : Env} {σ : Mp} : ∀ {l : List CV} {m : List Value}, VRl ρ σ l m → m.length = l.length
  | _, _, .nil => rfl
  | _, _, .cons _ t => by simp [VRl.length t]

theorem VRl.get {ρ : Env} {σ : Mp} : ∀ {l : List CV} {m : List Value}, VRl ρ σ l m → ∀ {i : Nat} {c : CV}, l[i]? = some c → ∃ v, m[i]? = some v ∧ VR ρ σ c v
  | _, _, .nil, i, c, h => by simp at h
  | _, _, .cons hv t, 0, c, h => by simp at h; subst h; exact ⟨_, rfl, hv⟩
  | _, _, .cons _ t, i + 1, c, h => by simpa using VRl.get t (i := i) (by simpa using h)

theorem VRl.mk {ρ : Env} {σ : Mp} : ∀ {l : List CV} {m : List Value}, m.length = l.length → (∀ (i : Nat) (c : CV), l[i]? = some c → ∃ v, m[i]? = some v ∧ VR ρ σ c v) → VRl ρ σ l m
  | [], [], _, _ => .nil
  | [], _ :: _, h, _ => by simp at h
  | _ :: _, [], h, _ => by simp at h
  | c :: l, v :: m, h, hi => by
    refine .cons ?_ (VRl.mk (by simpa using h) fun i c' hc' => by simpa using hi (i + 1) c' (by simpa using hc'))
    obtain ⟨v', h1, h2⟩ := hi 0 c rfl
    simp at h1
    exact h1 ▸ h2

theorem VRl.append {ρ : Env} {σ : Mp} : ∀ {l : List CV} {m : List Value} {l' : List CV} {m' : List Value}, VRl ρ σ l m → VRl ρ σ l' m' → VRl ρ σ (l ++ l') (m ++ m')
  | _, _, _, _, .nil, h => h
  | _, _, _, _, .cons hv t, h => .cons hv (VRl.append t h)

theorem VRl.take {ρ : Env} {σ : Mp} : ∀ (n : Nat) {l : List CV} {m : List Value}, VRl ρ σ l m → VRl ρ σ (l.take n) (m.take n)
  | 0, _, _, _ => by simpa using .nil
  | n + 1, _, _, .nil => by simpa using .nil
  | n + 1, _, _, .cons h t => by simpa using .cons h (VRl.take n t)

theorem VRl.drop {ρ : Env} {σ : Mp} : ∀ (n : Nat) {l : List CV} {m : List Value}, VRl ρ σ l m → VRl ρ σ (l.drop n) (m.drop n)
  | 0, _, _, h => by simpa using h
  | n + 1, _, _, .nil => by simpa using .nil
  | n + 1, _, _, .cons h t => by simpa using VRl.drop n t

theorem VRl.replicate {ρ : Env} {σ : Mp} {c : CV} {v : Value} (h : VR ρ σ c v) : ∀ n, VRl ρ σ (List.replicate n c) (List.replicate n v)
  | 0 => .nil
  | n + 1 => .cons h (VRl.replicate h n)

/-- The cells of a value. -/
def CV.cells : CV → List CV
  | .agg l => l
  | c => [c]

/-- A value that takes one cell. -/
def CV.flat : CV → Bool
  | .agg _ | .tup _ | .any => false
  | .raw v => v.oneCell'
  | _ => true

theorem VR.slx_inv {ρ : Env} {σ : Mp} {b z o n c : Nat} {v : Value} (h : VR ρ σ (.slx b z o n c) v) : VR ρ σ (.slc (some (b, o * z)) n c) v := by cases h; assumption
theorem VR.ptx_inv {ρ : Env} {σ : Mp} {b z j f : Nat} {v : Value} (h : VR ρ σ (.ptx b z j f) v) : VR ρ σ (.ptr (some (b, j * z + f))) v := by cases h; assumption

theorem VR.cells {ρ : Env} {σ : Mp} {c : CV} {v : Value} (h : VR ρ σ c v) (hr : (∀ w, c = .raw w → w.oneCell' = true) ∧ c ≠ .any) : VRl ρ σ c.cells v.cells.toList := by
  cases h with
  | agg h => exact h
  | raw v =>
    have h1 := hr.1 v rfl
    have e : v.cells = #[v] := by cases v <;> first | rfl | simp [Value.oneCell'] at h1
    rw [e]
    exact .cons (.raw v) .nil
  | bool b => exact .cons (.bool b) .nil
  | int k e => exact .cons (.int k e) .nil
  | ptr0 => exact .cons .ptr0 .nil
  | ptr h => exact .cons (.ptr h) .nil
  | slc0 => exact .cons .slc0 .nil
  | slc h hc hs => exact .cons (.slc h hc hs) .nil
  | slx h =>
    have e : v.cells = #[v] := by cases h; rfl
    rw [e]; exact .cons (.slx h) .nil
  | sla h hc => exact .cons (.sla h hc) .nil
  | sla0 a c => exact .cons (.sla0 a c) .nil
  | sln a c h => exact .cons (.sln a c h) .nil
  | slr a c h hq => exact .cons (.slr a c h hq) .nil
  | ptx h =>
    have e : v.cells = #[v] := by cases h; rfl
    rw [e]; exact .cons (.ptx h) .nil
  | any v => exact absurd rfl hr.2
  | junk h =>
    have e : v.cells = #[v] := by cases v <;> first | rfl | simp [Value.oneCell'] at h
    rw [e]; exact .cons (.junk h) .nil
  | emp a c => exact .cons (.emp a c) .nil
  | fn f ha hb => exact .cons (.fn f ha hb) .nil
  | tup h => exact .cons (.tup h) .nil
  | yld h => exact .cons (.yld h) .nil
  | map h => exact .cons (.map h) .nil

theorem VR.flat {ρ : Env} {σ : Mp} {c : CV} {v : Value} (h : VR ρ σ c v) (hf : c.flat = true) : v.oneCell' = true := by
  cases h with
  | slx h => cases h; rfl
  | ptx h => cases h; rfl
  | junk h => exact h
  | _ => first | rfl | exact hf | simp [CV.flat] at hf

/-! ## Constants -/

mutual
def CV.ofVal : Value → Option CV
  | .bool b => some (.bool (.c b))
  | .int k n => some (.int k (.c n))
  | .string s => some (.raw (.string s))
  | .float k b => some (.raw (.float k b))
  | .pointer none => some (.ptr none)
  | .slice none 0 0 => some (.slc none 0 0)
  | .map none => some (.raw (.map none))
  | .nilFunc => some (.raw .nilFunc)
  | .nilIface => some (.raw .nilIface)
  | .agg cs => match CV.ofVals cs.toList with | some l => some (.agg l) | none => none
  | .tuple cs => match CV.ofVals cs.toList with | some l => some (.tup l) | none => none
  | _ => none
def CV.ofVals : List Value → Option (List CV)
  | [] => some []
  | v :: l => match CV.ofVal v, CV.ofVals l with | some c, some m => some (c :: m) | _, _ => none
end

end Go.Proofs.Ytknphpihipkdpaa.Cx
