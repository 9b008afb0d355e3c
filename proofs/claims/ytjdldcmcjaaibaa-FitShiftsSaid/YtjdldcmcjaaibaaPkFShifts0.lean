/- An evaluator for Go functions over canonical memory with symbolic integers: its data, its memory, and what it means that a real value, a real world stands for them. -/
import Derived.LoopN
import Derived.Scope
import Derived.Orders
import Derived.Laws.CopyRow
import Derived.Laws.Entries
import Derived.Below
import Derived.Laws.NewFold
import Derived.Laws.Tables
import Derived.RangeFuncRecord
import Derived.RangeFuncIn
import Derived.RangeFuncLeaves

namespace Go.Proofs.Ytjdldcmcjaaibaa.Cx
set_option linter.unusedSimpArgs false
set_option linter.unusedVariables false
open Go Go.RowKit
/-! ## Numbers and tests -/
inductive Ar where
  | add | sub | mul | quo | rem | and | or | xor | andNot | shl | shr | mn | mx | conv | gcd
  deriving DecidableEq
inductive Cm where
  | eql | neq | lss | leq | gtr | geq
  deriving DecidableEq
def Ar.run (o : Ar) (k : IntKind) (x y : Int) : Int :=
  match o with
  | .add => k.wrap (x + y)
  | .sub => k.wrap (x - y)
  | .mul => k.wrap (x * y)
  | .quo => k.wrap (x.tdiv y)
  | .rem => x.tmod y
  | .and => k.wrap (BitVec.ofInt k.bits x &&& BitVec.ofInt k.bits y).toNat
  | .or => k.wrap (BitVec.ofInt k.bits x ||| BitVec.ofInt k.bits y).toNat
  | .xor => k.wrap (BitVec.ofInt k.bits x ^^^ BitVec.ofInt k.bits y).toNat
  | .andNot => k.wrap (BitVec.ofInt k.bits x &&& ~~~(BitVec.ofInt k.bits y)).toNat
  | .shl => k.wrap (x * 2 ^ min y.toNat k.bits)
  | .shr => x.fdiv (2 ^ min y.toNat k.bits)
  | .mn => if y < x then y else x
  | .mx => if y > x then y else x
  | .conv => k.wrap x
  | .gcd => (Int.gcd x y : Int)
def Cm.run (o : Cm) (x y : Int) : Bool :=
  match o with
  | .eql => x == y
  | .neq => x != y
  | .lss => decide (x < y)
  | .leq => decide (x ≤ y)
  | .gtr => decide (x > y)
  | .geq => decide (x ≥ y)
inductive IE where
  | c (n : Int)
  | v (i : Nat)
  | bin (o : Ar) (k : IntKind) (a b : IE)
  /-- a number as it stands in Lean -/
  | x (n : Int)
  deriving DecidableEq
inductive BE where
  | c (b : Bool)
  | v (i : Nat)
  | cmp (o : Cm) (a b : IE)
  | not (b : BE)
  /-- a test as it stands in Lean -/
  | x (b : Bool)
  deriving DecidableEq
/-- What the variables stand for. -/
structure Env where
  i : Nat → Int
  b : Nat → Bool
def IE.den (ρ : Env) : IE → Int
  | .c n => n
  | .v i => ρ.i i
  | .bin o k a b => o.run k (a.den ρ) (b.den ρ)
  | .x n => n
def BE.den (ρ : Env) : BE → Bool
  | .c b => b
  | .v i => ρ.b i
  | .cmp o a b => o.run (a.den ρ) (b.den ρ)
  | .not b => !b.den ρ
  | .x b => b
/-- The number lies within its kind, as can be seen. -/
def IE.inr (k : IntKind) : IE → Bool
  | .c n => decide (k.wrap n = n)
  | .bin o k' a b => match o with
    | .add | .sub | .mul | .quo | .conv => decide (k' = k)
    | .mn | .mx => IE.inr k a && IE.inr k b
    | _ => false
  | _ => false
/-- Operations with 0. -/
def IE.sim (o : Ar) (k : IntKind) : IE → IE → Option IE
  | a, .c z => bif decide (z = 0) then
      match o with
      | .mul => some (.c 0)
      | .add | .sub => bif a.inr k then some a else none
      | .mx => match a with
        | .bin .mx _ _ (.c y) => bif decide (y = 0) then some a else none
        | _ => none
      | _ => none
    else none
  | .bin .mx k' p q, b => match o with
    | .mx => bif decide (q = b) then some (.bin .mx k' p q) else none
    | _ => none
  | .c z, b => bif decide (z = 0) then
      match o with
      | .mul => some (.c 0)
      | .add => bif b.inr k then some b else none
      | _ => none
    else none
  | _, _ => none
def IE.mk (o : Ar) (k : IntKind) : IE → IE → IE
  | .c p, .c q => .c (o.run k p q)
  | .x p, .x q => .x (o.run k p q)
  | .x p, .c q => .x (o.run k p q)
  | .c p, .x q => .x (o.run k p q)
  | a, b => match IE.sim o k a b with
    | some e => e
    | none => .bin o k a b
def BE.mk (o : Cm) : IE → IE → BE
  | .c p, .c q => .c (o.run p q)
  | .x p, .x q => .x (o.run p q)
  | .x p, .c q => .x (o.run p q)
  | .c p, .x q => .x (o.run p q)
  | a, b => bif decide (a = b) then .c (match o with | .eql | .leq | .geq => true | _ => false) else
    match o with
    | .eql => .cmp .eql a b
    | .neq => .not (.cmp .eql a b)
    | .leq => .cmp .leq a b
    | .geq => .cmp .leq b a
    | .gtr => .not (.cmp .leq a b)
    | .lss => .not (.cmp .leq b a)
def BE.neg : BE → BE
  | .c b => .c !b
  | .not b => b
  | .x b => .x !b
  | b => .not b
theorem wrapW (k : IntKind) (n : Int) : k.wrap (k.wrap n) = k.wrap n := by
  have key : ∀ (m : Int) (b : Nat), 0 ≤ m → m < 2 ^ b → ∀ (t : Bool) (hh : Int), (if (t && decide (m ≥ hh)) = true then m - 2 ^ b else m) % 2 ^ b = m := by
    intro m b h0 h1 t hh
    split
    · rw [show m - 2 ^ b = m + 2 ^ b * (-1) by omega, Int.add_mul_emod_self_left]; exact Int.emod_eq_of_lt h0 h1
    · exact Int.emod_eq_of_lt h0 h1
  unfold IntKind.wrap
  simp only
  have hp : (0 : Int) < 2 ^ k.bits := by cases k <;> decide
  rw [key _ _ (Int.emod_nonneg _ (by omega)) (Int.emod_lt_of_pos _ hp)]
theorem wrap0 (k : IntKind) : k.wrap 0 = 0 := by cases k <;> decide
theorem IE.inr_ok (ρ : Env) (k : IntKind) : ∀ (e : IE), e.inr k = true → k.wrap (e.den ρ) = e.den ρ
  | .c n, h => of_decide_eq_true h
  | .v _, h => by cases h
  | .x _, h => by cases h
  | .bin o k' a b, h => by
    have ha := IE.inr_ok ρ k a
    have hb := IE.inr_ok ρ k b
    cases o <;> simp only [IE.inr, Bool.and_eq_true, decide_eq_true_eq, Bool.false_eq_true] at h
    case add => subst h; exact wrapW _ _
    case sub => subst h; exact wrapW _ _
    case mul => subst h; exact wrapW _ _
    case quo => subst h; exact wrapW _ _
    case conv => subst h; exact wrapW _ _
    case mn => simp only [IE.den, Ar.run]; split; exact hb h.2; exact ha h.1
    case mx => simp only [IE.den, Ar.run]; split; exact hb h.2; exact ha h.1
theorem IE.den_sim (ρ : Env) {o : Ar} {k : IntKind} {a b e : IE} (h : IE.sim o k a b = some e) : e.den ρ = o.run k (a.den ρ) (b.den ρ) := by
  unfold IE.sim at h
  simp only [Bool.cond_eq_ite] at h
  repeat' (first | (cases h; done) | split at h)
  all_goals cases h
  all_goals simp_all only [decide_eq_true_eq, IE.den, Ar.run, Int.mul_zero, Int.zero_mul, Int.add_zero, Int.zero_add, Int.sub_zero, wrap0, IE.inr_ok]
  all_goals (repeat' split) <;> omega
theorem IE.den_mk (ρ : Env) (o : Ar) (k : IntKind) (a b : IE) : (IE.mk o k a b).den ρ = o.run k (a.den ρ) (b.den ρ) := by
  unfold IE.mk
  split
  · rfl
  · rfl
  · rfl
  · rfl
  · split
    · rename_i h; exact IE.den_sim ρ h
    · rfl
theorem BE.den_mk (ρ : Env) (o : Cm) (a b : IE) : (BE.mk o a b).den ρ = o.run (a.den ρ) (b.den ρ) := by
  unfold BE.mk
  split
  · rfl
  · rfl
  · rfl
  · rfl
  · cases hd : decide (a = b) with
    | true =>
      rw [cond_true]
      have := of_decide_eq_true hd
      subst this
      cases o <;> simp [BE.den, Cm.run]
    | false =>
      rw [cond_false]
      cases o
      case eql => rfl
      case leq => rfl
      case neq => simp [BE.den, Cm.run, bne]
      case geq => simp [BE.den, Cm.run]
      case gtr => simp only [BE.den, Cm.run]; by_cases h : IE.den ρ a ≤ IE.den ρ b <;> simp [h] <;> omega
      case lss => simp only [BE.den, Cm.run]; by_cases h : IE.den ρ b ≤ IE.den ρ a <;> simp [h] <;> omega
theorem BE.den_neg (ρ : Env) (b : BE) : b.neg.den ρ = !b.den ρ := by
  unfold BE.neg; split <;> simp [BE.den]
/-- A fact that the way that is taken rests on. -/
inductive PC where
  | b (c : BE) (v : Bool)
  deriving DecidableEq
def PC.holds (ρ : Env) : PC → Prop
  | .b c v => c.den ρ = v
/-- Small numbers of terms and tests: different ones are different terms, which is seen at once. -/
def Ar.key : Ar → Nat
  | .add => 1 | .sub => 2 | .mul => 3 | .quo => 4 | .rem => 5 | .and => 6 | .or => 7 | .xor => 8 | .andNot => 9 | .shl => 10 | .shr => 11 | .mn => 12 | .mx => 13 | .conv => 14 | .gcd => 15
def Int.key' : Int → Nat
  | .ofNat n => Nat.mul 2 n
  | .negSucc n => Nat.add (Nat.mul 2 n) 1
noncomputable def IE.key (e : IE) : Nat :=
  IE.rec (motive := fun _ => Nat) (fun n => Nat.mul 3 (Int.key' n)) (fun i => Nat.add (Nat.mul 3 i) 1) (fun o _ _ _ x y => Nat.mod (Nat.add (Nat.mul 1000003 x) (Nat.add (Nat.mul 7919 y) (Nat.add (Nat.mul 31 o.key) 2))) 1000000007) (fun _ => 7) e
noncomputable def BE.key (e : BE) : Nat :=
  BE.rec (motive := fun _ => Nat) (fun b => Bool.rec 2 1 b) (fun i => Nat.mul 3 i) (fun _ a b => Nat.add a.key (Nat.mul 65537 b.key)) (fun _ x => Nat.add x 5) (fun _ => 7) e
/-- What is known of a test already. -/
noncomputable def PC.findK (b : BE) (k : Nat) : List PC → Option Bool
  | [] => none
  | .b c v :: l => bif Nat.beq c.key k then (bif decide (c = b) then some v else PC.findK b k l) else PC.findK b k l
noncomputable def PC.find (b : BE) (l : List PC) : Option Bool := PC.findK b b.key l
noncomputable def PC.findNK (e : IE) (k : Nat) : List PC → Option Int
  | [] => none
  | .b (.cmp .eql a (.c n)) true :: l => bif Nat.beq a.key k then (bif decide (a = e) then some n else PC.findNK e k l) else PC.findNK e k l
  | _ :: l => PC.findNK e k l
noncomputable def PC.findN (e : IE) (l : List PC) : Option Int := PC.findNK e e.key l
theorem PC.findK_holds {ρ : Env} {b : BE} {k : Nat} {v : Bool} : ∀ {l : List PC}, PC.findK b k l = some v → (∀ p ∈ l, p.holds ρ) → b.den ρ = v
  | [], h, _ => by cases h
  | .b c u :: l, h, hp => by
    have rest : PC.findK b k l = some v → b.den ρ = v := fun h => PC.findK_holds h fun p hp' => hp p (by simp [hp'])
    simp only [PC.findK] at h
    cases hk : Nat.beq c.key k with
    | false => rw [hk, cond_false] at h; exact rest h
    | true =>
      rw [hk, cond_true] at h
      cases hd : decide (c = b) with
      | true =>
        rw [hd, cond_true] at h
        cases h
        rw [← of_decide_eq_true hd]
        exact hp (.b c v) (by simp)
      | false => rw [hd, cond_false] at h; exact rest h
theorem PC.find_holds {ρ : Env} {b : BE} {v : Bool} {l : List PC} (h : PC.find b l = some v) (hp : ∀ p ∈ l, p.holds ρ) : b.den ρ = v := PC.findK_holds h hp
theorem PC.findNK_holds {ρ : Env} {e : IE} {k : Nat} {n : Int} : ∀ {l : List PC}, PC.findNK e k l = some n → (∀ p ∈ l, p.holds ρ) → e.den ρ = n
  | [], h, _ => by cases h
  | q :: l, h, hp => by
    have rest : PC.findNK e k l = some n → e.den ρ = n := fun h => PC.findNK_holds h fun p hp' => hp p (by simp [hp'])
    unfold PC.findNK at h
    split at h
    · cases h
    · rename_i a m l' heq
      cases heq
      cases hk : Nat.beq a.key k with
      | false => rw [hk, cond_false] at h; exact rest h
      | true =>
        rw [hk, cond_true] at h
        cases hd : decide (a = e) with
        | true =>
          rw [hd, cond_true] at h
          cases h
          rw [← of_decide_eq_true hd]
          have := hp (.b (.cmp .eql a (.c n)) true) (by simp)
          simpa [PC.holds, BE.den, Cm.run, IE.den] using this
        | false => rw [hd, cond_false] at h; exact rest h
    · rename_i heq
      cases heq
      exact rest h
theorem PC.findN_holds {ρ : Env} {e : IE} {n : Int} {l : List PC} (h : PC.findN e l = some n) (hp : ∀ p ∈ l, p.holds ρ) : e.den ρ = n := PC.findNK_holds h hp
/-! ## A tree of what is kept under numbers -/
inductive Tr (α : Type) where
  | nil
  | node (l : Tr α) (v : Option α) (r : Tr α)
noncomputable def Tr.get {α : Type} (t : Tr α) : Nat → Option α :=
  Tr.rec (motive := fun _ => Nat → Option α) (fun _ => none) (fun _ v _ gl gr n => Nat.rec (motive := fun _ => Option α) v (fun m _ => Bool.rec (gr (m / 2)) (gl (m / 2)) (Nat.beq (m % 2) 0)) n) t
noncomputable def Tr.put {α : Type} (x : α) (f : Nat) : Nat → Tr α → Tr α :=
  Nat.rec (motive := fun _ => Nat → Tr α → Tr α) (fun _ t => Tr.rec (motive := fun _ => Tr α) (.node .nil (some x) .nil) (fun l _ r _ _ => .node l (some x) r) t)
    (fun _ go n => Nat.rec (motive := fun _ => Tr α → Tr α) (fun t => Tr.rec (motive := fun _ => Tr α) (.node .nil (some x) .nil) (fun l _ r _ _ => .node l (some x) r) t)
      (fun m _ t => Tr.rec (motive := fun _ => Tr α) (Bool.rec (.node .nil none (go (m / 2) .nil)) (.node (go (m / 2) .nil) none .nil) (Nat.beq (m % 2) 0)) (fun l v r _ _ => Bool.rec (.node l v (go (m / 2) r)) (.node (go (m / 2) l) v r) (Nat.beq (m % 2) 0)) t) n) f
noncomputable def Tr.set {α : Type} (t : Tr α) (n : Nat) (x : α) : Tr α := Tr.put x n n t
theorem Tr.get_nil {α : Type} (n : Nat) : (Tr.nil : Tr α).get n = none := rfl
theorem Tr.get_node {α : Type} (l : Tr α) (v : Option α) (r : Tr α) (m : Nat) : (Tr.node l v r).get (m + 1) = bif Nat.beq (m % 2) 0 then l.get (m / 2) else r.get (m / 2) := by
  show (Bool.rec (r.get (m / 2)) (l.get (m / 2)) (Nat.beq (m % 2) 0) : Option α) = _
  cases Nat.beq (m % 2) 0 <;> rfl
theorem Tr.get_zero {α : Type} (l : Tr α) (v : Option α) (r : Tr α) : (Tr.node l v r).get 0 = v := rfl
theorem Tr.put_zero {α : Type} (x : α) (n : Nat) (t : Tr α) : Tr.put x 0 n t = match t with | .nil => .node .nil (some x) .nil | .node l _ r => .node l (some x) r := by cases t <;> rfl
theorem Tr.put_succ_zero {α : Type} (x : α) (f : Nat) (t : Tr α) : Tr.put x (f + 1) 0 t = match t with | .nil => .node .nil (some x) .nil | .node l _ r => .node l (some x) r := by cases t <;> rfl
theorem Tr.put_nil {α : Type} (x : α) (f m : Nat) : Tr.put x (f + 1) (m + 1) .nil = bif Nat.beq (m % 2) 0 then .node (Tr.put x f (m / 2) .nil) none .nil else .node .nil none (Tr.put x f (m / 2) .nil) := by
  show (Bool.rec (Tr.node .nil none (Tr.put x f (m / 2) .nil)) (.node (Tr.put x f (m / 2) .nil) none .nil) (Nat.beq (m % 2) 0) : Tr α) = _
  cases Nat.beq (m % 2) 0 <;> rfl
theorem Tr.put_node {α : Type} (x : α) (f m : Nat) (l : Tr α) (v : Option α) (r : Tr α) : Tr.put x (f + 1) (m + 1) (.node l v r) = bif Nat.beq (m % 2) 0 then .node (Tr.put x f (m / 2) l) v r else .node l v (Tr.put x f (m / 2) r) := by
  show (Bool.rec (Tr.node l v (Tr.put x f (m / 2) r)) (.node (Tr.put x f (m / 2) l) v r) (Nat.beq (m % 2) 0) : Tr α) = _
  cases Nat.beq (m % 2) 0 <;> rfl
theorem Tr.get_put {α : Type} (x : α) : ∀ (f n : Nat) (t : Tr α) (k : Nat), n ≤ f → (Tr.put x f n t).get k = if k = n then some x else t.get k
  | 0, n, t, k, h => by
    obtain rfl : n = 0 := by omega
    rw [Tr.put_zero]
    cases t <;> cases k <;> simp [Tr.get_node, Tr.get_zero, Tr.get_nil]
  | f + 1, 0, t, k, h => by
    rw [Tr.put_succ_zero]
    cases t <;> cases k <;> simp [Tr.get_node, Tr.get_zero, Tr.get_nil]
  | f + 1, m + 1, t, k, h => by
    have ih := fun t k => Tr.get_put x f (m / 2) t k (by omega)
    have key : ∀ k', (k' + 1 = m + 1) ↔ (k' % 2 = m % 2 ∧ k' / 2 = m / 2) := fun k' => by omega
    cases t with
    | nil =>
      cases k with
      | zero => rw [Tr.put_nil]; cases hm : Nat.beq (m % 2) 0 <;> simp [Tr.get_zero, Tr.get_nil]
      | succ k =>
        rw [Tr.put_nil]
        by_cases hm : m % 2 = 0
        · have e1 : Nat.beq (m % 2) 0 = true := by rw [hm]; rfl
          rw [e1, cond_true, Tr.get_node]
          by_cases hk : k % 2 = 0
          · have e2 : Nat.beq (k % 2) 0 = true := by rw [hk]; rfl
            rw [e2, cond_true, ih, Tr.get_nil, Tr.get_nil]
            by_cases e : k / 2 = m / 2
            · rw [if_pos e, if_pos ((key k).2 ⟨by omega, e⟩)]
            · rw [if_neg e, if_neg fun h => e ((key k).1 h).2]
          · have e2 : Nat.beq (k % 2) 0 = false := by rw [show k % 2 = 1 by omega]; rfl
            rw [e2, cond_false, Tr.get_nil, Tr.get_nil, if_neg fun h => by have := (key k).1 h; omega]
        · have e1 : Nat.beq (m % 2) 0 = false := by rw [show m % 2 = 1 by omega]; rfl
          rw [e1, cond_false, Tr.get_node]
          by_cases hk : k % 2 = 0
          · have e2 : Nat.beq (k % 2) 0 = true := by rw [hk]; rfl
            rw [e2, cond_true, Tr.get_nil, Tr.get_nil, if_neg fun h => by have := (key k).1 h; omega]
          · have e2 : Nat.beq (k % 2) 0 = false := by rw [show k % 2 = 1 by omega]; rfl
            rw [e2, cond_false, ih, Tr.get_nil, Tr.get_nil]
            by_cases e : k / 2 = m / 2
            · rw [if_pos e, if_pos ((key k).2 ⟨by omega, e⟩)]
            · rw [if_neg e, if_neg fun h => e ((key k).1 h).2]
    | node l v r =>
      cases k with
      | zero => rw [Tr.put_node]; cases hm : Nat.beq (m % 2) 0 <;> simp [Tr.get_zero]
      | succ k =>
        rw [Tr.put_node]
        by_cases hm : m % 2 = 0
        · have e1 : Nat.beq (m % 2) 0 = true := by rw [hm]; rfl
          rw [e1, cond_true, Tr.get_node, Tr.get_node]
          by_cases hk : k % 2 = 0
          · have e2 : Nat.beq (k % 2) 0 = true := by rw [hk]; rfl
            rw [e2, cond_true, cond_true, ih]
            by_cases e : k / 2 = m / 2
            · rw [if_pos e, if_pos ((key k).2 ⟨by omega, e⟩)]
            · rw [if_neg e, if_neg fun h => e ((key k).1 h).2]
          · have e2 : Nat.beq (k % 2) 0 = false := by rw [show k % 2 = 1 by omega]; rfl
            rw [e2, cond_false, cond_false, if_neg fun h => by have := (key k).1 h; omega]
        · have e1 : Nat.beq (m % 2) 0 = false := by rw [show m % 2 = 1 by omega]; rfl
          rw [e1, cond_false, Tr.get_node, Tr.get_node]
          by_cases hk : k % 2 = 0
          · have e2 : Nat.beq (k % 2) 0 = true := by rw [hk]; rfl
            rw [e2, cond_true, cond_true, if_neg fun h => by have := (key k).1 h; omega]
          · have e2 : Nat.beq (k % 2) 0 = false := by rw [show k % 2 = 1 by omega]; rfl
            rw [e2, cond_false, cond_false, ih]
            by_cases e : k / 2 = m / 2
            · rw [if_pos e, if_pos ((key k).2 ⟨by omega, e⟩)]
            · rw [if_neg e, if_neg fun h => e ((key k).1 h).2]
theorem Tr.get_set {α : Type} (t : Tr α) (n : Nat) (x : α) (k : Nat) : (t.set n x).get k = if k = n then some x else t.get k := Tr.get_put x n n t k (Nat.le_refl _)
/-! ## Values -/
inductive CV where
  | bool (b : BE)
  | int (k : IntKind) (e : IE)
  /-- a value that holds no address (a string, a nil) -/
  | raw (v : Value)
  | ptr (a : Option (Nat × Nat))
  | slc (a : Option (Nat × Nat)) (len cap : Nat)
  /-- a slice of a block of rows of z cells, from a row: the numbers as they stand in Lean -/
  | slx (b z o len cap : Nat)
  /-- a slice of rows that is read alone -/
  | sla (b z o len : Nat)
  /-- a slice that is only measured -/
  | sln (e : IE)
  /-- a slice that is read alone, at places that are known: each of its first N rows of z cells is a block of its own, from b on -/
  | slr (b z N : Nat) (e : IE)
  /-- a cell of a row of z cells: the row's number as it stands in Lean -/
  | ptx (b z j f : Nat)
  /-- anything that takes one cell -/
  | junk
  /-- anything -/
  | any
  /-- an empty slice that is not nil, at an unknown place -/
  | emp
  | fn (f : Fn) (first captured : List CV)
  | agg (l : List CV)
  | tup (l : List CV)
  /-- the function that a range over a function hands to its iterator: a round of the loop whose record is this block -/
  | yld (b : Nat)
  /-- a map that is not nil -/
  | map (b : Nat)
/-- Where a block lies: its real block, the cell at which it begins there, how many cells that block has, and how many an element of slices of it has. -/
structure Loc where
  blk : Nat
  base : Nat
  size : Nat
  esz : Nat
abbrev Mp := Nat → Option Loc
mutual
/-- A real value stands for a canonical one. -/
inductive VR (ρ : Env) (σ : Mp) : CV → Value → Prop
  | bool (b : BE) : VR ρ σ (.bool b) (.bool (b.den ρ))
  | int (k : IntKind) (e : IE) : VR ρ σ (.int k e) (.int k (e.den ρ))
  | raw (v : Value) : VR ρ σ (.raw v) v
  | ptr0 : VR ρ σ (.ptr none) (.pointer none)
  | ptr {b o : Nat} {l : Loc} (h : σ b = some l) : VR ρ σ (.ptr (some (b, o))) (.pointer (some ⟨l.blk, l.base + o, none⟩))
  | slc0 : VR ρ σ (.slc none 0 0) (.slice none 0 0)
  | slc {b o n c c' : Nat} {l : Loc} (h : σ b = some l) (hc : c ≤ c') (hs : l.base + o + c' * l.esz ≤ l.size) : VR ρ σ (.slc (some (b, o)) n c) (.slice (some ⟨l.blk, l.base + o, none⟩) n c')
  | slx {b z o n c : Nat} {v : Value} (h : VR ρ σ (.slc (some (b, o * z)) n c) v) : VR ρ σ (.slx b z o n c) v
  | sla {b z o n c' : Nat} {l : Loc} (h : σ b = some l) (hc : n ≤ c') : VR ρ σ (.sla b z o n) (.slice (some ⟨l.blk, l.base + o * z, none⟩) n c')
  | sla0 {b z o : Nat} (a : Option Addr) (c' : Nat) : VR ρ σ (.sla b z o 0) (.slice a 0 c')
  | sln {e : IE} {n : Nat} (a : Option Addr) (c' : Nat) (h : e.den ρ = n) : VR ρ σ (.sln e) (.slice a n c')
  | slr {b z N n : Nat} {e : IE} (a : Option Addr) (c' : Nat) (h : e.den ρ = n) (hr : ∀ i, i < n → i < N → ∃ (l : Loc) (o : Nat), a = some ⟨l.blk, o, none⟩ ∧ l.base = o + i * z ∧ σ (b + i) = some l) : VR ρ σ (.slr b z N e) (.slice a n c')
  | ptx {b z j f : Nat} {v : Value} (h : VR ρ σ (.ptr (some (b, j * z + f))) v) : VR ρ σ (.ptx b z j f) v
  | junk {v : Value} (h : v.oneCell' = true) : VR ρ σ .junk v
  | any (v : Value) : VR ρ σ .any v
  | emp (a : Addr) (c' : Nat) : VR ρ σ .emp (.slice (some a) 0 c')
  | fn (f : Fn) {a b : List CV} {a' b' : Array Value} (ha : VRl ρ σ a a'.toList) (hb : VRl ρ σ b b'.toList) : VR ρ σ (.fn f a b) (.func f a' b')
  | agg {l : List CV} {cs : Array Value} (h : VRl ρ σ l cs.toList) : VR ρ σ (.agg l) (.agg cs)
  | tup {l : List CV} {cs : Array Value} (h : VRl ρ σ l cs.toList) : VR ρ σ (.tup l) (.tuple cs)
  | yld {b : Nat} {l : Loc} (h : σ b = some l) : VR ρ σ (.yld b) (.func (.yield l.blk) #[] #[])
  | map {b : Nat} {l : Loc} (h : σ b = some l) : VR ρ σ (.map b) (.map (some l.blk))
inductive VRl (ρ : Env) (σ : Mp) : List CV → List Value → Prop
  | nil : VRl ρ σ [] []
  | cons {c : CV} {v : Value} {l : List CV} {m : List Value} (h : VR ρ σ c v) (t : VRl ρ σ l m) : VRl ρ σ (c :: l) (v :: m)
end
/-- One map goes on another. -/
def Mp.le (σ τ : Mp) : Prop := ∀ b l, σ b = some l → τ b = some l
mutual
theorem VR.mono {ρ : Env} {σ τ : Mp} (hl : σ.le τ) {c : CV} {v : Value} : VR ρ σ c v → VR ρ τ c v
  | .bool b => .bool b
  | .int k e => .int k e
  | .raw v => .raw v
  | .ptr0 => .ptr0
  | .ptr h => .ptr (hl _ _ h)
  | .slc0 => .slc0
  | .slc h hc hs => .slc (hl _ _ h) hc hs
  | .slx h => .slx (VR.mono hl h)
  | .sla h hc => .sla (hl _ _ h) hc
  | .sla0 a c => .sla0 a c
  | .sln a c h => .sln a c h
  | .slr a c h hr => .slr a c h fun i h1 h2 => let ⟨l, o, q1, q2, q3⟩ := hr i h1 h2; ⟨l, o, q1, q2, hl _ _ q3⟩
  | .ptx h => .ptx (VR.mono hl h)
  | .junk h => .junk h
  | .any v => .any v
  | .emp a c => .emp a c
  | .fn f ha hb => .fn f (VRl.mono hl ha) (VRl.mono hl hb)
  | .agg h => .agg (VRl.mono hl h)
  | .tup h => .tup (VRl.mono hl h)
  | .yld h => .yld (hl _ _ h)
  | .map h => .map (hl _ _ h)
theorem VRl.mono {ρ : Env} {σ τ : Mp} (hl : σ.le τ) {c : List CV} {v : List Value} : VRl ρ σ c v → VRl ρ τ c v
  | .nil => .nil
  | .cons h t => .cons (VR.mono hl h) (VRl.mono hl t)
end
theorem VRl.length {ρ : Env} {σ : Mp} : ∀ {l : List CV} {m : List Value}, VRl ρ σ l m → m.length = l.length
  | _, _, .nil => rfl
  | _, _, .cons _ t => by simp [VRl.length t]
theorem VRl.get {ρ : Env} {σ : Mp} : ∀ {l : List CV} {m : List Value}, VRl ρ σ l m → ∀ {i : Nat} {c : CV}, l[i]? = some c → ∃ v, m[i]? = some v ∧ VR ρ σ c v
  | _, _, .nil, i, c, h => by simp at h
  | _, _, .cons hv t, 0, c, h => by simp at h; subst h; exact ⟨_, rfl, hv⟩
  | _, _, .cons _ t, i + 1, c, h => by simpa using VRl.get t (i := i) (by simpa using h)
theorem VRl.mk {ρ : Env} {σ : Mp} : ∀ {l : List CV} {m : List Value}, m.length = l.length → (∀ (i : Nat) (c : CV), l[i]? = some c → ∃ v, m[i]? = some v ∧ VR ρ σ c v) → VRl ρ σ l m
  | [], [], _, _ => .nil
  | [], _ :: _, h, _ => by simp at h
  | _ :: _, [], h, _ => by simp at h
  | c :: l, v :: m, h, hi => by
    refine .cons ?_ (VRl.mk (by simpa using h) fun i c' hc' => by simpa using hi (i + 1) c' (by simpa using hc'))
    obtain ⟨v', h1, h2⟩ := hi 0 c rfl
    simp at h1
    exact h1 ▸ h2
theorem VRl.append {ρ : Env} {σ : Mp} : ∀ {l : List CV} {m : List Value} {l' : List CV} {m' : List Value}, VRl ρ σ l m → VRl ρ σ l' m' → VRl ρ σ (l ++ l') (m ++ m')
  | _, _, _, _, .nil, h => h
  | _, _, _, _, .cons hv t, h => .cons hv (VRl.append t h)
theorem VRl.take {ρ : Env} {σ : Mp} : ∀ (n : Nat) {l : List CV} {m : List Value}, VRl ρ σ l m → VRl ρ σ (l.take n) (m.take n)
  | 0, _, _, _ => by simpa using .nil
  | n + 1, _, _, .nil => by simpa using .nil
  | n + 1, _, _, .cons h t => by simpa using .cons h (VRl.take n t)
theorem VRl.drop {ρ : Env} {σ : Mp} : ∀ (n : Nat) {l : List CV} {m : List Value}, VRl ρ σ l m → VRl ρ σ (l.drop n) (m.drop n)
  | 0, _, _, h => by simpa using h
  | n + 1, _, _, .nil => by simpa using .nil
  | n + 1, _, _, .cons h t => by simpa using VRl.drop n t
theorem VRl.replicate {ρ : Env} {σ : Mp} {c : CV} {v : Value} (h : VR ρ σ c v) : ∀ n, VRl ρ σ (List.replicate n c) (List.replicate n v)
  | 0 => .nil
  | n + 1 => .cons h (VRl.replicate h n)
/-- The cells of a value. -/
def CV.cells : CV → List CV
  | .agg l => l
  | c => [c]
/-- A value that takes one cell. -/
def CV.flat : CV → Bool
  | .agg _ | .tup _ | .any => false
  | .raw v => v.oneCell'
  | _ => true
theorem VR.slx_inv {ρ : Env} {σ : Mp} {b z o n c : Nat} {v : Value} (h : VR ρ σ (.slx b z o n c) v) : VR ρ σ (.slc (some (b, o * z)) n c) v := by cases h; assumption
theorem VR.ptx_inv {ρ : Env} {σ : Mp} {b z j f : Nat} {v : Value} (h : VR ρ σ (.ptx b z j f) v) : VR ρ σ (.ptr (some (b, j * z + f))) v := by cases h; assumption
theorem VR.cells {ρ : Env} {σ : Mp} {c : CV} {v : Value} (h : VR ρ σ c v) (hr : (∀ w, c = .raw w → w.oneCell' = true) ∧ c ≠ .any) : VRl ρ σ c.cells v.cells.toList := by
  cases h with
  | agg h => exact h
  | raw v =>
    have h1 := hr.1 v rfl
    have e : v.cells = #[v] := by cases v <;> first | rfl | simp [Value.oneCell'] at h1
    rw [e]
    exact .cons (.raw v) .nil
  | bool b => exact .cons (.bool b) .nil
  | int k e => exact .cons (.int k e) .nil
  | ptr0 => exact .cons .ptr0 .nil
  | ptr h => exact .cons (.ptr h) .nil
  | slc0 => exact .cons .slc0 .nil
  | slc h hc hs => exact .cons (.slc h hc hs) .nil
  | slx h =>
    have e : v.cells = #[v] := by cases h; rfl
    rw [e]; exact .cons (.slx h) .nil
  | sla h hc => exact .cons (.sla h hc) .nil
  | sla0 a c => exact .cons (.sla0 a c) .nil
  | sln a c h => exact .cons (.sln a c h) .nil
  | slr a c h hq => exact .cons (.slr a c h hq) .nil
  | ptx h =>
    have e : v.cells = #[v] := by cases h; rfl
    rw [e]; exact .cons (.ptx h) .nil
  | any v => exact absurd rfl hr.2
  | junk h =>
    have e : v.cells = #[v] := by cases v <;> first | rfl | simp [Value.oneCell'] at h
    rw [e]; exact .cons (.junk h) .nil
  | emp a c => exact .cons (.emp a c) .nil
  | fn f ha hb => exact .cons (.fn f ha hb) .nil
  | tup h => exact .cons (.tup h) .nil
  | yld h => exact .cons (.yld h) .nil
  | map h => exact .cons (.map h) .nil
theorem VR.flat {ρ : Env} {σ : Mp} {c : CV} {v : Value} (h : VR ρ σ c v) (hf : c.flat = true) : v.oneCell' = true := by
  cases h with
  | slx h => cases h; rfl
  | ptx h => cases h; rfl
  | junk h => exact h
  | _ => first | rfl | exact hf | simp [CV.flat] at hf
/-! ## Constants -/
mutual
def CV.ofVal : Value → Option CV
  | .bool b => some (.bool (.c b))
  | .int k n => some (.int k (.c n))
  | .string s => some (.raw (.string s))
  | .float k b => some (.raw (.float k b))
  | .pointer none => some (.ptr none)
  | .slice none 0 0 => some (.slc none 0 0)
  | .map none => some (.raw (.map none))
  | .nilFunc => some (.raw .nilFunc)
  | .nilIface => some (.raw .nilIface)
  | .agg cs => match CV.ofVals cs.toList with | some l => some (.agg l) | none => none
  | .tuple cs => match CV.ofVals cs.toList with | some l => some (.tup l) | none => none
  | _ => none
def CV.ofVals : List Value → Option (List CV)
  | [] => some []
  | v :: l => match CV.ofVal v, CV.ofVals l with | some c, some m => some (c :: m) | _, _ => none
end
end Go.Proofs.Ytjdldcmcjaaibaa.Cx

/- The evaluator: one operation, a region, a statement, a call. -/
namespace Go.Proofs.Ytjdldcmcjaaibaa.Cx
set_option linter.unusedSimpArgs false
set_option linter.unusedVariables false
open Go Go.RowKit
noncomputable section
/-- What is known of a type. -/
structure TyR where
  desc : TypeDesc
  size : Nat
  bytes : Nat
  zero : List CV
  agg : Bool
/-- The record of a range over a function: the frame's temporaries at its start, the code of a round, how it stands. -/
structure LR where
  T : Tr CV
  nt : Nat
  ps : Array Tmp
  assign : Code
  body : Code
  st : LoopState
  pend : Option Code
/-- A block that holds no cells: the record of a range over a function; a map, by its entries. -/
inductive BX where
  | loop (r : LR)
  | map (l : List (CV × CV))
/-- Rows, one behind another. -/
def flatR (row : Nat → List CV) : Nat → List CV
  | 0 => []
  | n + 1 => flatR row n ++ row n
/-- What a block holds: cells, or rows of z cells, as many as a number that stands in Lean. -/
inductive BC where
  | lit (l : List CV)
  | rows (n z : Nat) (row : Nat → List CV) (h : ∀ j, (row j).length = z ∧ (row j).all CV.flat = true)
  /-- rows that are read alone: they may lie in memory that other blocks lie in, too -/
  | arg (n z : Nat) (row : Nat → List CV) (h : ∀ j, (row j).length = z ∧ (row j).all CV.flat = true)
def BC.list : BC → List CV
  | .lit l => l
  | .rows n _ row _ => flatR row n
  | .arg n _ row _ => flatR row n
/-- A block: its cells, the cells of an element of slices of it, whether it may still be read as cells; or what else it holds. -/
structure Blk where
  body : BC
  esz : Nat
  live : Bool
  ext : Option BX
def Blk.cells (k : Blk) : List CV := k.body.list
def BC.ro : BC → Bool
  | .arg .. => true
  | _ => false
def Blk.ro (k : Blk) : Bool := k.body.ro
structure St where
  heap : Tr Blk
  next : Nat
  orc : List Nat
  pc : List PC
abbrev Memo := Nat → List CV → St → Option (CV × St × List Nat × List Nat)
structure Ctx where
  ty : Nat → Option TyR
  fn : Nat → Option Func
  /-- of types of structs and arrays whose == compares cell by cell: what their cells are, integers of a kind or bools -/
  eq : Nat → Option (List (Option IntKind))
  /-- a type's zero value -/
  zv : Nat → Option CV
  /-- calls that are known: what they yield, the memory behind them, the blocks that they read and wrote -/
  memo : Memo
/-- What an operation yields, the memory behind it, and the blocks that it read and wrote. -/
structure OR where
  val : CV
  s : St
  R : List Nat
  W : List Nat
def undefC : CV := .tup []
def rd (T : Tr CV) (t : Nat) : CV := match T.get t with | some c => c | none => .any
def ev (T : Tr CV) : Operand → Option CV
  | .tmp t => some (rd T t)
  | .const v => CV.ofVal v
  | .global _ => none
  | .func f => some (.fn (.func f) [] [])
def evs (T : Tr CV) : List Operand → Option (List CV)
  | [] => some []
  | x :: l => match ev T x, evs T l with
    | some c, some m => some (c :: m)
    | _, _ => none
def St.ask (s : St) (b : BE) : Option (Bool × St) :=
  match PC.find b s.pc with
  | some v => some (v, s)
  | none => match s.orc with
    | [] => none
    | n :: t => some (Nat.beq n 1, { s with orc := t, pc := .b b (Nat.beq n 1) :: s.pc })
def St.decide (s : St) : BE → Option (Bool × St)
  | .c b => some (b, s)
  | .not b => match s.ask b with | some (v, s) => some (!v, s) | none => none
  | .x b => match s.orc with
    | [] => none
    | n :: t => some (Nat.beq n 1, { s with orc := t, pc := .b (.x b) (Nat.beq n 1) :: s.pc })
  | b => s.ask b
/-- A test that stands in Lean is asked at once. -/
def St.tell (s : St) : BE → Option (BE × St)
  | .x b => match s.decide (.x b) with | some (v, s) => some (.c v, s) | none => none
  | b => some (b, s)
/-- A test that must hold. -/
def St.must (s : St) : BE → Option St
  | .c b => bif b then some s else none
  | .x b => some { s with pc := .b (.x b) true :: s.pc }
  | b => match s.decide b with | some (true, s) => some s | _ => none
def St.conc (s : St) : IE → Option (Int × St)
  | .c n => some (n, s)
  | .x x => match s.orc with
    | [] => none
    | n :: t => some ((n : Int), { s with orc := t, pc := .b (.x (Decidable.decide (x = n))) true :: s.pc })
  | e => match PC.findN e s.pc with
    | some n => some (n, s)
    | none => match s.orc with
      | [] => none
      | n :: t => some ((n : Int), { s with orc := t, pc := .b (.cmp .eql e (.c n)) true :: s.pc })
/-- A place in a slice whose length is a symbol. -/
def St.place (s : St) (x e : IE) (N : Nat) : Option (Nat × St) :=
  match s.conc x with
  | some (n, s) => bif Decidable.decide (0 ≤ n) && Nat.blt n.toNat N then (match s.decide (BE.mk .lss (.c n) e) with | some (true, s) => some (n.toNat, s) | _ => none) else none
  | none => none
def St.ld (s : St) (b o n : Nat) : Option (List CV) :=
  match s.heap.get b with
  | some k => bif k.live && Nat.ble (o + n) k.cells.length && Nat.blt b s.next then some ((k.cells.drop o).take n) else none
  | none => none
def St.st (s : St) (b o : Nat) (l : List CV) : Option St :=
  match s.heap.get b with
  | some k => bif k.live && Nat.ble (o + l.length) k.cells.length && l.all CV.flat && Nat.blt b s.next && !k.ro then some { s with heap := s.heap.set b { k with body := .lit (k.cells.take o ++ l ++ k.cells.drop (o + l.length)) } } else none
  | none => none
def St.kill (s : St) (b : Nat) : St :=
  match s.heap.get b with
  | some k => { s with heap := s.heap.set b { k with live := false, ext := none } }
  | none => s
def St.newB (s : St) (l : BC) (esz : Nat) : St := { s with heap := s.heap.set s.next ⟨l, esz, true, none⟩, next := s.next + 1 }
def St.new (s : St) (l : List CV) (esz : Nat) : St := { s with heap := s.heap.set s.next ⟨.lit l, esz, true, none⟩, next := s.next + 1 }
/-- One of two numbers, one of two bools. -/
def IE.num : IE → Option Int
  | .c n | .x n => some n
  | _ => none
def BE.val : BE → Option Bool
  | .c b | .x b => some b
  | _ => none
def CV.sel (t : Bool) : CV → CV → CV
  | .int k a, .int k' b => bif decide (k = k') then (match a.num, b.num with | some x, some y => .int k (.x (bif t then x else y)) | _, _ => .junk) else .junk
  | .bool a, .bool b => match a.val, b.val with | some x, some y => .bool (.x (bif t then x else y)) | _, _ => .junk
  | _, _ => .junk
/-- A row of which some cells from a place on are others, if so. -/
def updRow (t : Bool) : Nat → List CV → List CV → List CV
  | f + 1, l, c :: r => c :: updRow t f l r
  | 0, x :: l, c :: r => CV.sel t x c :: updRow t 0 l r
  | _, _, r => r
/-- One of two rows. -/
def selRow (t : Bool) : List CV → List CV → List CV
  | a :: l, b :: m => CV.sel t a b :: selRow t l m
  | _, m => m
theorem CV.sel_flat (t : Bool) (a b : CV) : (CV.sel t a b).flat = true := by
  unfold CV.sel
  split
  · rename_i k x k' y
    cases decide (k = k') with
    | false => rfl
    | true => simp only [cond_true]; split <;> rfl
  · split <;> rfl
  · rfl
theorem updRow_ok (t : Bool) : ∀ (f : Nat) (l r : List CV), (updRow t f l r).length = r.length ∧ (r.all CV.flat = true → (updRow t f l r).all CV.flat = true)
  | f + 1, l, c :: r => by
    have := updRow_ok t f l r
    simp only [updRow, List.length_cons, List.all_cons, Bool.and_eq_true]
    exact ⟨by rw [this.1], fun h => ⟨h.1, this.2 h.2⟩⟩
  | 0, x :: l, c :: r => by
    have := updRow_ok t 0 l r
    simp only [updRow, List.length_cons, List.all_cons, Bool.and_eq_true]
    exact ⟨by rw [this.1], fun h => ⟨CV.sel_flat _ _ _, this.2 h.2⟩⟩
  | f + 1, l, [] => ⟨by simp [updRow], fun _ => by simp [updRow]⟩
  | 0, [], r => ⟨by cases r <;> simp [updRow], fun h => by
    cases r with
    | nil => simp [updRow]
    | cons a l => simpa [updRow] using h⟩
  | 0, x :: l, [] => ⟨by simp [updRow], fun _ => by simp [updRow]⟩
theorem selRow_ok (t : Bool) : ∀ (a b : List CV), (selRow t a b).length = b.length ∧ (b.all CV.flat = true → (selRow t a b).all CV.flat = true)
  | a :: l, b :: m => by
    have := selRow_ok t l m
    simp only [selRow, List.length_cons, List.all_cons, Bool.and_eq_true]
    exact ⟨by rw [this.1], fun h => ⟨CV.sel_flat _ _ _, this.2 h.2⟩⟩
  | [], m => ⟨by simp [selRow], fun h => by simpa [selRow] using h⟩
  | a :: l, [] => ⟨by simp [selRow], fun _ => by simp [selRow]⟩
/-- Cells of a row. -/
def St.ldx (s : St) (b z j f n : Nat) : Option (List CV × St) :=
  match s.heap.get b with
  | some ⟨.rows m z' row _, _, true, _⟩ => bif Nat.beq z z' && Nat.ble (f + n) z && Nat.blt b s.next then (match s.must (.x (Decidable.decide (j < m))) with | some s => some (((row j).drop f).take n, s) | none => none) else none
  | some ⟨.arg m z' row _, _, true, _⟩ => bif Nat.beq z z' && Nat.ble (f + n) z && Nat.blt b s.next then (match s.must (.x (Decidable.decide (j < m))) with | some s => some (((row j).drop f).take n, s) | none => none) else none
  | _ => none
def St.stx (s : St) (b z j f : Nat) (l : List CV) : Option St :=
  match s.heap.get b with
  | some ⟨.rows m z' row h, e, true, x⟩ => bif Nat.beq z z' && Nat.ble (f + l.length) z && l.all CV.flat && Nat.blt b s.next then
      (match s.must (.x (Decidable.decide (j < m))) with
      | some s => some { s with heap := s.heap.set b ⟨.rows m z' (fun i => updRow (Nat.beq i j) f l (row i)) (fun i => ⟨(updRow_ok _ _ _ _).1.trans (h i).1, (updRow_ok _ _ _ _).2 (h i).2⟩), e, true, x⟩ }
      | none => none) else none
  | _ => none
def St.newX (s : St) (x : BX) : St := { s with heap := s.heap.set s.next ⟨.lit [], 0, false, some x⟩, next := s.next + 1 }
def St.getX (s : St) (b : Nat) : Option BX :=
  match s.heap.get b with
  | some k => bif Nat.blt b s.next then k.ext else none
  | none => none
def St.setX (s : St) (b : Nat) (x : BX) : St := { s with heap := s.heap.set b ⟨.lit [], 0, false, some x⟩ }
/-- Cells that are symbols; a row of them that is read alone; N such rows as blocks. -/
def symCells : List IntKind → Nat → List CV
  | [], _ => []
  | k :: ks, K => .int k (.v K) :: symCells ks (K + 1)
theorem symCells_ok : ∀ (ks : List IntKind) (K : Nat), (symCells ks K).length = ks.length ∧ (symCells ks K).all CV.flat = true
  | [], _ => ⟨rfl, rfl⟩
  | k :: ks, K => ⟨congrArg Nat.succ (symCells_ok ks (K + 1)).1, (symCells_ok ks (K + 1)).2⟩
def rowB (ks : List IntKind) (K : Nat) : Blk := ⟨.arg 1 ks.length (fun _ => symCells ks K) (fun _ => symCells_ok ks K), ks.length, true, none⟩
def rowsB (ks : List IntKind) : (N b K : Nat) → Tr Blk → Tr Blk
  | 0, _, _, t => t
  | N + 1, b, K, t => rowsB ks N (b + 1) (K + ks.length) (t.set b (rowB ks K))
def CV.fit (c : CV) : Bool := match c with | .agg _ => true | c => c.flat
def fillC (place : Nat → Option (Nat × Nat)) : List CV → List (Nat × CV) → Option (List CV)
  | cells, [] => some cells
  | cells, (i, v) :: rest =>
    match place i with
    | none => none
    | some (off, size) =>
      bif Nat.beq v.cells.length size && Nat.ble (off + size) cells.length && v.fit then fillC place (cells.take off ++ v.cells ++ cells.drop (off + size)) rest else none
def rep : Nat → List CV → List CV
  | 0, _ => []
  | n + 1, l => l ++ rep n l
/-- The places of a struct's fields. -/
def placesC (C : Ctx) : List Field → Option (List (Nat × Nat))
  | [] => some []
  | f :: l => match C.ty f.type, placesC C l with
    | some q, some m => some ((f.offset, q.size) :: m)
    | _, _ => none
def evps (T : Tr CV) : List (Nat × Operand) → Option (List (Nat × CV))
  | [] => some []
  | (i, x) :: l => match ev T x, evps T l with
    | some c, some m => some ((i, c) :: m)
    | _, _ => none
/-- Cells of these kinds. -/
def shapeC : List (Option IntKind) → List CV → Bool
  | [], [] => true
  | none :: ks, .bool _ :: l => shapeC ks l
  | some k :: ks, .int k' _ :: l => decide (k = k') && shapeC ks l
  | _, _ => false
def eqCells (s : St) : List CV → List CV → Option (Bool × St)
  | .int _ a :: l, .int _ b :: m =>
    match s.decide (BE.mk .eql a b) with
    | some (true, s) => eqCells s l m
    | some (false, s) => some (false, s)
    | none => none
  | .bool a :: l, .bool b :: m =>
    match s.decide a with
    | some (x, s) => match s.decide b with
      | some (y, s) => bif x == y then eqCells s l m else some (false, s)
      | none => none
    | none => none
  | _, _ => some (true, s)
/-- What an append appends: its cells, how many elements, the blocks read. -/
def srcE (q : TyR) (s : St) (d : TypeDesc) (y : CV) : Option (List CV × Nat × List Nat) :=
  match d, y with
  | .int _, .int _ (.c n) => bif decide (0 ≤ n) && decide (n ≤ 10000) then some (rep n.toNat q.zero, n.toNat, []) else none
  | .slice _, .slc none _ _ => some ([], 0, [])
  | .slice _, .emp => some ([], 0, [])
  | .slice _, .slc (some (b, o)) n _ => match s.ld b o (n * q.size) with
    | some l => bif Nat.ble n 10000 then some (l, n, [b]) else none
    | none => none
  | .slice _, .sla b z o n => match s.ld b (o * z) (n * q.size) with
    | some l => bif Nat.ble n 10000 then some (l, n, [b]) else none
    | none => none
  | _, _ => none
/-- An append of such cells. (z: as many as a number that may be 0.) -/
def appE (q : TyR) (s : St) (x : CV) (l : List CV) (n : Nat) (R : List Nat) (z : Bool) : Option OR :=
  match x with
  | .slc none _ _ => bif Nat.beq n 0 then some ⟨x, s, R, []⟩ else some ⟨.slc (some (s.next, 0)) n n, s.new l q.size, R, []⟩
  | .emp => bif Nat.beq n 0 then some ⟨x, s, R, []⟩ else none
  | .slc (some (b, o)) m c =>
    bif Nat.beq n 0 && !z then (bif Nat.ble m c then some ⟨x, s, R, []⟩ else none) else
    match s.ld b o (m * q.size), s.heap.get b with
    | some h, some k => bif Nat.beq k.esz q.size && Nat.ble (m + n) 10000 && l.all CV.flat && !k.ro && (Nat.ble 1 n || Nat.ble m c) then some ⟨.slc (some (s.next, 0)) (m + n) (m + n), (s.kill b).new (h ++ l) q.size, b :: R, [b]⟩ else none
    | _, _ => none
  | _ => none
/-- Rows that are appended. -/
structure RS where
  n : Nat
  z : Nat
  row : Nat → List CV
  h : ∀ j, (row j).length = z ∧ (row j).all CV.flat = true
  R : List Nat
def St.musts (s : St) : List Bool → Option St
  | [] => some s
  | b :: l => match s.must (.x b) with | some s => s.musts l | none => none
/-- What holds of a part of rows; that it has one. -/
def lstZ (z a : Bool) (n : Nat) : List Bool := bif z then [a] else [a, decide (1 ≤ n)]
def srcX (z₀ : Bool) (q : TyR) (s : St) (d : TypeDesc) (y : CV) : Option (RS × St) :=
  match d, y with
  | .slice _, .slx b z o n _ => match s.heap.get b with
    | some ⟨.rows m z' row h, _, true, _⟩ => bif Nat.beq z z' && Nat.beq z q.size && Nat.blt b s.next then
        (match s.musts (lstZ z₀ (decide (o + n ≤ m)) n) with | some s => some (⟨n, z', fun i => row (o + i), fun i => h _, [b]⟩, s) | none => none) else none
    | some ⟨.arg m z' row h, _, true, _⟩ => bif Nat.beq z z' && Nat.beq z q.size && Nat.blt b s.next then
        (match s.musts (lstZ z₀ (decide (o + n ≤ m)) n) with | some s => some (⟨n, z', fun i => row (o + i), fun i => h _, [b]⟩, s) | none => none) else none
    | _ => none
  | .slice _, .sla b z o n => match s.heap.get b with
    | some ⟨.rows m z' row h, _, true, _⟩ => bif Nat.beq z z' && Nat.beq z q.size && Nat.blt b s.next then
        (match s.musts (lstZ z₀ (decide (o + n ≤ m)) n) with | some s => some (⟨n, z', fun i => row (o + i), fun i => h _, [b]⟩, s) | none => none) else none
    | some ⟨.arg m z' row h, _, true, _⟩ => bif Nat.beq z z' && Nat.beq z q.size && Nat.blt b s.next then
        (match s.musts (lstZ z₀ (decide (o + n ≤ m)) n) with | some s => some (⟨n, z', fun i => row (o + i), fun i => h _, [b]⟩, s) | none => none) else none
    | _ => none
  | .slice _, .slc (some (b, o)) 1 _ => match s.ld b o q.size with
    | some l => if hf : l.all CV.flat = true then (bif Nat.beq l.length q.size then some (⟨1, l.length, fun _ => l, fun _ => ⟨rfl, hf⟩, [b]⟩, s) else none) else none
    | none => none
  | _, _ => none
/-- What holds of an append to rows; that it needs no room, if it may be one of nothing. -/
def lstA (z : Bool) (a b : Bool) (n m c : Nat) : List Bool := bif z then [a, b, decide (1 ≤ n ∨ m ≤ c)] else [a, b]
def appX (z₀ : Bool) (q : TyR) (s : St) (x : CV) (rs : RS) : Option OR :=
  match x with
  | .slx b z o m c => match s.heap.get b with
    | some ⟨.rows M z' row h, e, true, _⟩ => bif Nat.beq z z' && Nat.beq e q.size && Nat.beq z q.size && Nat.beq rs.z q.size && Nat.blt b s.next then
        (match s.musts (lstA z₀ (decide (o + m ≤ M)) (decide (m + rs.n ≤ 10000)) rs.n m c) with
        | some s => some ⟨.slx s.next rs.z 0 (m + rs.n) (m + rs.n), (s.kill b).newB (.rows (m + rs.n) rs.z (fun i => selRow (Nat.blt i m) (row (o + i)) (rs.row (i - m))) (fun i => ⟨(selRow_ok _ _ _).1.trans (rs.h _).1, (selRow_ok _ _ _).2 (rs.h _).2⟩)) q.size, b :: rs.R, [b]⟩
        | none => none) else none
    | _ => none
  | .slc none _ _ => bif Nat.beq rs.z q.size && !z₀ then
      (match s.musts [decide (rs.n ≤ 10000)] with
      | some s => some ⟨.slx s.next rs.z 0 rs.n rs.n, s.newB (.rows rs.n rs.z rs.row rs.h) q.size, rs.R, []⟩
      | none => none) else none
  | .slc (some (b, o)) 0 c => match s.heap.get b with
    | some ⟨.lit l, e, true, _⟩ => bif Nat.ble o l.length && Nat.beq e q.size && Nat.beq rs.z q.size && Nat.blt b s.next then
        (match s.musts [decide (rs.n ≤ 10000)] with
        | some s => some ⟨.slx s.next rs.z 0 rs.n rs.n, (s.kill b).newB (.rows rs.n rs.z rs.row rs.h) q.size, b :: rs.R, [b]⟩
        | none => none) else none
    | _ => none
  | _ => none
/-- Whether an append is one of rows. -/
def isX (x y : CV) : Bool :=
  match x, y with
  | .slx .., _ => true
  | _, .slx .. => true
  | _, .sla .. => true
  | _, _ => false
/-- Whether rows that are appended may be none at all. -/
def zOf (x y : CV) : Bool :=
  match x, y with
  | .slc none _ _, _ => false
  | _, .slx .. => true
  | _, .sla .. => true
  | _, _ => false
/-- A nil slice stays nil where nothing is appended: asked. -/
def askN (s : St) (d : TypeDesc) (x y : CV) : Option (Bool × St) :=
  match d, x, y with
  | .slice _, .slc none _ _, .sla _ _ _ n => s.decide (.x (Decidable.decide (1 ≤ n)))
  | .slice _, .slc none _ _, .slx _ _ _ n _ => s.decide (.x (Decidable.decide (1 ≤ n)))
  | _, _, _ => some (true, s)
/-- An append of rows. -/
def appN (q : TyR) (s : St) (d : TypeDesc) (x y : CV) : Option OR :=
  match askN s d x y with
  | some (true, s) => (match srcX (zOf x y) q s d y with
    | some (rs, s) => appX (zOf x y) q s x rs
    | none => none)
  | some (false, s) => some ⟨x, s, [], []⟩
  | none => none
abbrev okE (s : St) (c : CV) : Option OR := some ⟨c, s, [], []⟩
def opMove (C : Ctx) (T : Tr CV) (s : St) (x : Operand) : Option OR :=
  match ev T x with | some c => okE s c | none => none
def opPick (C : Ctx) (T : Tr CV) (s : St) (c a b : Operand) : Option OR :=
  match ev T c, ev T a, ev T b with
  | some (.bool e), some x, some y => match s.decide e with | some (t, s) => some ⟨bif t then x else y, s, [], []⟩ | none => none
  | _, _, _ => none
def opAlloc (C : Ctx) (T : Tr CV) (s : St) (t : TypeId) : Option OR :=
  match C.ty t with | some r => some ⟨.ptr (some (s.next, 0)), s.new r.zero 0, [], []⟩ | none => none
def opBox (C : Ctx) (T : Tr CV) (s : St) (t : TypeId) (x : Operand) : Option OR :=
  match ev T x with | some c => bif c.fit then some ⟨.ptr (some (s.next, 0)), s.new c.cells 0, [], []⟩ else none | none => none
def opBuild (C : Ctx) (T : Tr CV) (s : St) (t : TypeId) (parts : Array (Nat × Operand)) : Option OR :=
  match C.ty t, evps T parts.toList with
  | some r, some ps =>
    match r.desc with
    | .struct fs => match placesC C fs.toList with
      | some pl => match fillC (fun i => pl[i]?) r.zero ps with | some l => okE s (.agg l) | none => none
      | none => none
    | .array n e => match C.ty e with
      | some q => match fillC (fun i => some (i * q.size, q.size)) r.zero ps with | some l => okE s (.agg l) | none => none
      | none => none
    | _ => none
  | _, _ => none
def opBuildSlice (C : Ctx) (T : Tr CV) (s : St) (t : TypeId) (len : Nat) (parts : Array (Nat × Operand)) : Option OR :=
  match C.ty t, evps T parts.toList with
  | some r, some ps =>
    match r.desc with
    | .slice e => match C.ty e with
      | some q =>
        bif Nat.ble 1 q.size && Nat.ble (len * q.size) 10000 then
          match fillC (fun i => some (i * q.size, q.size)) (rep len q.zero) ps with
          | some l => some ⟨.slc (some (s.next, 0)) len len, s.new l q.size, [], []⟩
          | none => none
        else none
      | none => none
    | _ => none
  | _, _ => none
def opLoad (C : Ctx) (T : Tr CV) (s : St) (t : TypeId) (x : Operand) : Option OR :=
  match C.ty t, ev T x with
  | some r, some (.ptr (some (b, o))) =>
    bif r.agg then match s.ld b o r.size with | some l => some ⟨.agg l, s, [b], []⟩ | none => none
    else match s.ld b o 1 with | some [c] => some ⟨c, s, [b], []⟩ | _ => none
  | some r, some (.ptx b z j f) =>
    bif r.agg then match s.ldx b z j f r.size with | some (l, s) => some ⟨.agg l, s, [b], []⟩ | none => none
    else match s.ldx b z j f 1 with | some ([c], s) => some ⟨c, s, [b], []⟩ | _ => none
  | _, _ => none
def opStore (C : Ctx) (T : Tr CV) (s : St) (t : TypeId) (x v : Operand) : Option OR :=
  match C.ty t, ev T x, ev T v with
  | some r, some (.ptr (some (b, o))), some c =>
    bif c.fit && Nat.beq c.cells.length r.size then match s.st b o c.cells with | some s' => some ⟨undefC, s', [], [b]⟩ | none => none else none
  | some r, some (.ptx b z j f), some c =>
    bif c.fit && Nat.beq c.cells.length r.size then match s.stx b z j f c.cells with | some s' => some ⟨undefC, s', [], [b]⟩ | none => none else none
  | _, _, _ => none
def opNil (C : Ctx) (T : Tr CV) (s : St) (x : Operand) : Option OR :=
  match ev T x with
  | some (.ptr (some a)) => okE s (.ptr (some a))
  | some (.ptx b z j f) => okE s (.ptx b z j f)
  | some (.fn (.func f) a b) => okE s (.fn (.func f) a b)
  | _ => none
def cmpE (s : St) (b : BE) : Option OR := match s.tell b with | some (b, s) => some ⟨.bool b, s, [], []⟩ | none => none
/-- A term whose value is known. -/
def St.nrm (s : St) (e : IE) : IE :=
  match e with
  | .bin .. => match PC.findN e s.pc with | some n => .c n | none => e
  | _ => e
def opBinInt (s : St) (op : BinOp) (k : IntKind) (a : IE) (k' : IntKind) (b : IE) : Option OR :=
  match op with
  | .shl | .shr => match s.must (BE.mk .geq b (.c 0)) with
    | some s => some ⟨.int k (.mk (match op with | .shl => .shl | _ => .shr) k a b), s, [], []⟩
    | none => none
  | _ =>
  bif decide (k = k') then
    match op with
    | .add => okE s (.int k (.mk .add k a b))
    | .sub => okE s (.int k (.mk .sub k a b))
    | .mul => okE s (.int k (.mk .mul k a b))
    | .and => okE s (.int k (.mk .and k a b))
    | .or => okE s (.int k (.mk .or k a b))
    | .xor => okE s (.int k (.mk .xor k a b))
    | .andNot => okE s (.int k (.mk .andNot k a b))
    | .quo => match s.must (BE.mk .neq b (.c 0)) with | some s => some ⟨.int k (.mk .quo k a b), s, [], []⟩ | none => none
    | .rem => match s.must (BE.mk .neq b (.c 0)) with | some s => some ⟨.int k (.mk .rem k a b), s, [], []⟩ | none => none
    | .eql => cmpE s (.mk .eql a b)
    | .neq => cmpE s (.mk .neq a b)
    | .lss => cmpE s (.mk .lss a b)
    | .leq => cmpE s (.mk .leq a b)
    | .gtr => cmpE s (.mk .gtr a b)
    | .geq => cmpE s (.mk .geq a b)
    | _ => none
  else none
def opBinBool (C : Ctx) (s : St) (op : BinOp) (t : TypeId) (a b : BE) : Option OR :=
  match C.ty t, op with
  | some r, .eql => match r.desc with
    | .bool => match s.decide a with
      | some (x, s1) => match s1.decide b with | some (y, s2) => some ⟨.bool (.c (x == y)), s2, [], []⟩ | none => none
      | _ => none
    | _ => none
  | some r, .neq => match r.desc with
    | .bool => match s.decide a with
      | some (x, s1) => match s1.decide b with | some (y, s2) => some ⟨.bool (.c (x != y)), s2, [], []⟩ | none => none
      | _ => none
    | _ => none
  | _, _ => none
def opBinAgg (C : Ctx) (s : St) (op : BinOp) (t : TypeId) (a b : List CV) : Option OR :=
  match C.eq t with
  | some ks =>
    bif shapeC ks a && shapeC ks b then
      match op, eqCells s a b with
      | .eql, some (v, s) => some ⟨.bool (.c v), s, [], []⟩
      | .neq, some (v, s) => some ⟨.bool (.c !v), s, [], []⟩
      | _, _ => none
    else none
  | none => none
/-- Whether a value is nil, as far as its shape says so. -/
def CV.isNil : TypeDesc → CV → Option Bool
  | .slice _, .slc none _ _ => some true
  | .slice _, .slc (some _) _ _ => some false
  | .slice _, .slx .. => some false
  | .slice _, .emp => some false
  | .map _ _, .map _ => some false
  | .map _ _, .raw (.map none) => some true
  | .func _ _ _, .raw .nilFunc => some true
  | .func _ _ _, .fn .. => some false
  | .pointer _, .ptr none => some true
  | .pointer _, .ptr (some _) => some false
  | .pointer _, .ptx .. => some false
  | _, _ => none
/-- A comparison with nil. -/
def opBinNil (C : Ctx) (s : St) (op : BinOp) (t : TypeId) (x y : CV) : Option OR :=
  match C.ty t with
  | some r => match x.isNil r.desc, y.isNil r.desc with
    | some a, some b =>
      bif a || b then
        match op with
        | .eql => okE s (.bool (.c (a && b)))
        | .neq => okE s (.bool (.c !(a && b)))
        | _ => none
      else none
    | _, _ => none
  | none => none
def opBin (C : Ctx) (T : Tr CV) (s : St) (op : BinOp) (t : TypeId) (x y : Operand) : Option OR :=
  match ev T x, ev T y with
  | some (.int k a), some (.int k' b) => opBinInt s op k (s.nrm a) k' (s.nrm b)
  | some (.bool a), some (.bool b) => opBinBool C s op t a b
  | some (.agg a), some (.agg b) => opBinAgg C s op t a b
  | some x, some y => opBinNil C s op t x y
  | _, _ => none
def opUn (C : Ctx) (T : Tr CV) (s : St) (op : UnOp) (x : Operand) : Option OR :=
  match op, ev T x with
  | .neg, some (.int k a) => okE s (.int k (.mk .sub k (.c 0) a))
  | .not, some (.bool b) => okE s (.bool b.neg)
  | _, _ => none
def opConv (C : Ctx) (T : Tr CV) (s : St) (st dt : TypeId) (x : Operand) : Option OR :=
  match C.ty st, C.ty dt, ev T x with
  | some r, some q, some (.int _ a) => match q.desc with
    | .int k => okE s (.int k (.mk .conv k a (.c 0)))
    | _ => none
  | _, _, _ => none
def opFunc (C : Ctx) (T : Tr CV) (s : St) (f : Fn) (a b : Array Operand) : Option OR :=
  match evs T a.toList, evs T b.toList with
  | some x, some y => okE s (.fn f x y)
  | _, _ => none
/-- Rows of zero values. -/
def zrows (q : TyR) (s : St) (n : Int) : Option OR :=
  if hf : q.zero.all CV.flat = true then
    (bif Nat.ble 1 q.size && Nat.ble q.bytes 100000 && Nat.beq q.zero.length q.size then
      (match s.musts [decide (0 ≤ n), decide (n ≤ 10000)] with
      | some s => some ⟨.slx s.next q.zero.length 0 n.toNat n.toNat, s.newB (.rows n.toNat q.zero.length (fun _ => q.zero) (fun _ => ⟨rfl, hf⟩)) q.size, [], []⟩
      | none => none) else none)
  else none
def opMakeSlice (C : Ctx) (T : Tr CV) (s : St) (t : TypeId) (l c : Operand) : Option OR :=
  match C.ty t, ev T l, ev T c with
  | some r, some (.int k (.x n)), some (.int k' (.x m)) =>
    match r.desc with
    | .slice e => match C.ty e with
      | some q => match s.must (.x (decide (n = m))) with
        | some s => zrows q s n
        | none => none
      | none => none
    | _ => none
  | some r, some (.int _ x), some (.int _ y) =>
    match r.desc with
    | .slice e => match C.ty e with
      | some q => match s.conc x with
        | some (n, s1) => match s1.conc y with
          | some (m, s2) => bif decide (0 ≤ n) && decide (n ≤ m) && decide (m ≤ 10000) && Nat.ble 1 q.size && Nat.ble q.bytes 100000 then some ⟨.slc (some (s.next, 0)) n.toNat m.toNat, s2.new (rep m.toNat q.zero) q.size, [], []⟩ else none
          | none => none
        | none => none
      | none => none
    | _ => none
  | _, _, _ => none
/-- A bound of a part of rows. -/
def boundX (T : Tr CV) (x : Option Operand) (d : Nat) : Option Int := match x with
  | none => some d
  | some x => match ev T x with
    | some (.int _ e) => e.num
    | _ => none
/-- A part of a slice of rows. -/
def opSliceX (C : Ctx) (T : Tr CV) (s : St) (t : TypeId) (x : Operand) (lo hi : Option Operand) : Option OR :=
  match C.ty t, ev T x with
  | some r, some (.slx b z o n c) =>
    match r.desc with
    | .slice e => match C.ty e, boundX T lo 0, boundX T hi n with
      | some q, some l, some h =>
        bif Nat.beq z q.size then
          match s.musts [decide (0 ≤ l), decide (l ≤ h), decide (h ≤ c)] with
          | some s => some ⟨bif lo.isNone then .slx b z o h.toNat c else .sla b z (o + l.toNat) (h.toNat - l.toNat), s, [], []⟩
          | none => none
        else none
      | _, _, _ => none
    | _ => none
  | some r, some (.sla b z o n) =>
    match r.desc with
    | .slice e => match C.ty e, boundX T lo 0, boundX T hi n with
      | some q, some l, some h =>
        bif Nat.beq z q.size then
          match s.musts [decide (0 ≤ l), decide (l ≤ h), decide (h ≤ n)] with
          | some s => some ⟨.sla b z (o + l.toNat) (h.toNat - l.toNat), s, [], []⟩
          | none => none
        else none
      | _, _, _ => none
    | _ => none
  | _, _ => none
def opSlice (C : Ctx) (T : Tr CV) (s : St) (t : TypeId) (x : Operand) (lo hi : Option Operand) : Option OR :=
  match C.ty t, ev T x with
  | some r, some (.slc a n c) =>
    match r.desc with
    | .slice e => match C.ty e with
      | some q =>
        let bound (x : Option Operand) (d : Nat) : Option Nat := match x with
          | none => some d
          | some x => match ev T x with
            | some (.int _ (.c m)) => bif decide (0 ≤ m) then some m.toNat else none
            | some (.int _ e) => match PC.findN e s.pc with | some m => bif decide (0 ≤ m) then some m.toNat else none | none => none
            | _ => none
        match bound lo 0, bound hi n with
        | some l, some h =>
          bif Nat.ble l h && Nat.ble h c then
            match a with
            | some (b, o) =>
              bif Nat.beq l 0 then okE s (.slc (some (b, o)) h c) else
              bif Nat.blt l c then
                match s.heap.get b with
                | some k => bif k.live && Nat.beq k.esz q.size && Nat.blt b s.next then some ⟨.slc (some (b, o + l * q.size)) (h - l) (c - l), s, [b], []⟩ else none
                | none => none
              else okE s .emp
            | none => okE s (.slc none 0 0)
          else none
        | _, _ => none
      | none => none
    | _ => none
  | _, _ => none
/-- All of an array in memory, as a slice. -/
def opSliceArr (C : Ctx) (T : Tr CV) (s : St) (t : TypeId) (x : Operand) : Option OR :=
  match C.ty t, ev T x with
  | some r, some (.ptr (some (b, o))) =>
    match r.desc with
    | .array n e => match C.ty e, s.heap.get b with
      | some q, some k => bif k.live && Nat.beq k.esz 0 && Nat.ble o k.cells.length && Nat.blt b s.next then some ⟨.slc (some (b, o)) n n, s, [b], []⟩ else none
      | _, _ => none
    | _ => none
  | _, _ => none
/-- The first ones of an array in memory, as a slice. -/
def opSliceArrH (C : Ctx) (T : Tr CV) (s : St) (t : TypeId) (x : Operand) : Option Operand → Option OR
  | none => none
  | some hi => match C.ty t, ev T x, ev T hi with
    | some r, some (.ptr (some (b, o))), some (.int _ e) => match s.conc e with
      | some (m, s1) => match r.desc with
        | .array n el => match C.ty el, s.heap.get b with
          | some _, some k => bif k.live && Nat.beq k.esz 0 && Nat.ble o k.cells.length && Nat.blt b s.next && decide (0 ≤ m) && Nat.ble m.toNat n then some ⟨.slc (some (b, o)) m.toNat n, s1, [b], []⟩ else none
          | _, _ => none
        | _ => none
      | none => none
    | _, _, _ => none
/-- A bound that is a symbol is taken at a value. -/
def concOp (T : Tr CV) (s : St) : Option Operand → Option St
  | none => some s
  | some x => match ev T x with
    | some (.int _ e) => match s.conc e with | some (_, s) => some s | none => none
    | _ => some s
def opSlices (C : Ctx) (T : Tr CV) (s : St) (t : TypeId) (x : Operand) (lo hi : Option Operand) : Option OR :=
  match lo, hi, opSliceArr C T s t x with
  | none, none, some r => some r
  | _, _, _ => match lo, opSliceArrH C T s t x hi with
  | none, some r => some r
  | _, _ => match ev T x with
    | some (.slx ..) => opSliceX C T s t x lo hi
    | some (.sla ..) => opSliceX C T s t x lo hi
    | _ => match concOp T s lo with
      | some s => match concOp T s hi with
        | some s => opSlice C T s t x lo hi
        | none => none
      | none => none
def opFieldAddr (C : Ctx) (T : Tr CV) (s : St) (t : TypeId) (x : Operand) (f : Nat) : Option OR :=
  match C.ty t, ev T x with
  | some r, some (.ptr (some (b, o))) =>
    match r.desc with
    | .struct fs => match fs[f]? with
      | some fd => match C.ty fd.type with
        | some q => bif Nat.beq q.size 0 then none else okE s (.ptr (some (b, o + fd.offset)))
        | none => none
      | none => none
    | _ => none
  | some r, some (.ptx b z j o) =>
    match r.desc with
    | .struct fs => match fs[f]? with
      | some fd => match C.ty fd.type with
        | some q => bif Nat.beq q.size 0 then none else okE s (.ptx b z j (o + fd.offset))
        | none => none
      | none => none
    | _ => none
  | _, _ => none
def opField (C : Ctx) (T : Tr CV) (s : St) (t : TypeId) (x : Operand) (f : Nat) : Option OR :=
  match C.ty t, ev T x with
  | some r, some (.agg l) =>
    match r.desc with
    | .struct fs => match fs[f]? with
      | some fd => match C.ty fd.type with
        | some q => bif q.agg then okE s (.agg ((l.drop fd.offset).take q.size)) else match l[fd.offset]? with | some c => okE s c | none => none
        | none => none
      | none => none
    | _ => none
  | _, _ => none
def opIndexAddr (C : Ctx) (T : Tr CV) (s : St) (t : TypeId) (x i : Operand) : Option OR :=
  match C.ty t, ev T x, ev T i with
  | some r, some (.slr b z N e), some (.int _ y) =>
    match r.desc with
    | .slice el => match C.ty el with
      | some q => bif Nat.beq z q.size then (match s.place y e N with | some (n, s) => some ⟨.ptr (some (b + n, 0)), s, [], []⟩ | none => none) else none
      | none => none
    | _ => none
  | some r, some (.slx b z o len _), some (.int _ e) =>
    match r.desc, e.num with
    | .slice el, some n => match C.ty el with
      | some q => bif Nat.beq z q.size then
          (match s.musts [decide (0 ≤ n), decide (n < len)] with
          | some s => some ⟨.ptx b z (o + n.toNat) 0, s, [], []⟩
          | none => none) else none
      | none => none
    | _, _ => none
  | some r, some (.sla b z o len), some (.int _ e) =>
    match r.desc, e.num with
    | .slice el, some n => match C.ty el with
      | some q => bif Nat.beq z q.size then
          (match s.musts [decide (0 ≤ n), decide (n < len)] with
          | some s => some ⟨.ptx b z (o + n.toNat) 0, s, [], []⟩
          | none => none) else none
      | none => none
    | _, _ => none
  | some r, some (.ptx b z j o), some (.int _ e) =>
    match s.conc e with
    | some (n, s) =>
      match r.desc with
      | .array len el => match C.ty el with
        | some q => bif decide (0 ≤ n) && decide (n < len) then some ⟨.ptx b z j (o + n.toNat * q.size), s, [], []⟩ else none
        | none => none
      | _ => none
    | none => none
  | some r, some y, some (.int _ e) =>
    match s.conc e with
    | some (n, s) =>
      match r.desc, y with
      | .slice el, .slc (some (b, o)) len _ => match C.ty el with
        | some q => bif decide (0 ≤ n) && decide (n < len) then some ⟨.ptr (some (b, o + n.toNat * q.size)), s, [], []⟩ else none
        | none => none
      | .array len el, .ptr (some (b, o)) => match C.ty el with
        | some q => bif decide (0 ≤ n) && decide (n < len) then some ⟨.ptr (some (b, o + n.toNat * q.size)), s, [], []⟩ else none
        | none => none
      | _, _ => none
    | none => none
  | _, _, _ => none
def opIndex (C : Ctx) (T : Tr CV) (s : St) (t : TypeId) (x i : Operand) : Option OR :=
  match C.ty t, ev T x, ev T i with
  | some r, some (.agg l), some (.int _ e) =>
    match s.conc e with
    | some (n, s) =>
      match r.desc with
      | .array len el => match C.ty el with
        | some q => bif decide (0 ≤ n) && decide (n < len) then
            (bif q.agg then some ⟨.agg ((l.drop (n.toNat * q.size)).take q.size), s, [], []⟩ else match l[n.toNat * q.size]? with | some c => some ⟨c, s, [], []⟩ | none => none)
          else none
        | none => none
      | _ => none
    | none => none
  | some r, some (.raw (.string b)), some (.int _ (.c n)) =>
    match r.desc with
    | .string => bif decide (0 ≤ n) then match b[n.toNat]? with | some x => okE s (.int .u8 (.c x.toNat)) | none => none else none
    | _ => none
  | _, _, _ => none
def opExtract (C : Ctx) (T : Tr CV) (s : St) (x : Operand) (i : Nat) : Option OR :=
  match ev T x with
  | some (.tup l) => match l[i]? with | some c => okE s c | none => none
  | _ => none
def opBuiltin (C : Ctx) (T : Tr CV) (s : St) (b : Builtin) (args : Array Operand) (argTypes : Array TypeId) : Option OR :=
  match evs T args.toList with
  | none => none
  | some vs =>
    match b, vs with
    | .len, [x] => match argTypes[0]? with
      | some t => match C.ty t with
        | some r => match r.desc, x with
          | .slice _, .slc _ n _ => okE s (.int .i64 (.c n))
          | .slice _, .slx _ _ _ n _ => okE s (.int .i64 (.x n))
          | .slice _, .sla _ _ _ n => okE s (.int .i64 (.x n))
          | .slice _, .sln e => okE s (.int .i64 e)
          | .slice _, .slr _ _ _ e => okE s (.int .i64 e)
          | .slice _, .emp => okE s (.int .i64 (.c 0))
          | .array n _, _ => okE s (.int .i64 (.c n))
          | _, _ => none
        | none => none
      | none => none
    | .min, [.int k a, .int k' b] => bif decide (k = k') then okE s (.int k (.mk .mn k a b)) else none
    | .max, [.int k a, .int k' b] => bif decide (k = k') then okE s (.int k (.mk .mx k a b)) else none
    | .min, [.int k a, .int k' b, .int k'' c] => bif decide (k = k') && decide (k = k'') then okE s (.int k (.mk .mn k (.mk .mn k a b) c)) else none
    | .max, [.int k a, .int k' b, .int k'' c] => bif decide (k = k') && decide (k = k'') then okE s (.int k (.mk .mx k (.mk .mx k a b) c)) else none
    | .cap, [.slc none _ _] => match argTypes[0]? with
      | some t => match C.ty t with
        | some r => match r.desc with
          | .slice _ => okE s (.int .i64 (.c 0))
          | _ => none
        | none => none
      | none => none
    | .append, [x, y] =>
      match argTypes[0]?, argTypes[1]? with
      | some t1, some t2 =>
        match C.ty t1, C.ty t2 with
        | some r, some r2 =>
          match r.desc with
          | .slice e =>
            match C.ty e with
            | some q => bif Nat.ble 1 q.size && Nat.ble q.bytes 100000 then
                bif isX x y then appN q s r2.desc x y else
                match srcE q s r2.desc y with
                | some (l, n, R) => appE q s x l n R false
                | none => none
              else none
            | none => none
          | _ => none
        | _, _ => none
      | _, _ => none
    | _, _ => none
/-- Whether a value is a key of a type. -/
def keyOkE (C : Ctx) (kt : TypeId) (key : CV) : Bool :=
  match C.ty kt with
  | some r => match r.desc, key with
    | .int k, .int k' _ => decide (k = k')
    | .bool, .bool _ => true
    | .string, .raw (.string _) => true
    | .struct _, .agg x => match C.eq kt with | some ks => shapeC ks x | none => false
    | .array _ _, .agg x => match C.eq kt with | some ks => shapeC ks x | none => false
    | _, _ => false
  | none => false
/-- Whether two keys are the same. -/
def keyE (C : Ctx) (kt : TypeId) (s : St) (a b : CV) : Option (Bool × St) :=
  match a, b with
  | .int k x, .int k' y => bif decide (k = k') then s.decide (BE.mk .eql x y) else none
  | .bool x, .bool y => eqCells s [.bool x] [.bool y]
  | .raw (.string x), .raw (.string y) => some (x == y, s)
  | .agg x, .agg y => match C.eq kt with
    | some ks => bif shapeC ks x && shapeC ks y then eqCells s x y else none
    | none => none
  | _, _ => none
def findE (C : Ctx) (kt : TypeId) (key : CV) : List (CV × CV) → Nat → St → Option (Option (Nat × CV) × St)
  | [], _, s => some (none, s)
  | (k, v) :: l, i, s => match keyE C kt s key k with
    | some (true, s) => some (some (i, v), s)
    | some (false, s) => findE C kt key l (i + 1) s
    | none => none
def opMakeMap (C : Ctx) (T : Tr CV) (s : St) (t : TypeId) (r : Option Operand) : Option OR :=
  match r with
  | none => some ⟨.map s.next, s.newX (.map []), [], []⟩
  | some _ => none
def opLookup (C : Ctx) (T : Tr CV) (s : St) (t : TypeId) (x i : Operand) (ok : Bool) : Option OR :=
  match C.ty t, ev T x, ev T i with
  | some r, some y, some key =>
    match r.desc with
    | .map kt e =>
      bif keyOkE C kt key then
        match C.zv e with
        | some z =>
          match y with
          | .map b => match s.getX b with
            | some (.map es) => match findE C kt key es 0 s with
              | some (some (_, v), s') => some ⟨bif ok then .tup [v, .bool (.c true)] else v, s', [b], []⟩
              | some (none, s') => some ⟨bif ok then .tup [z, .bool (.c false)] else z, s', [b], []⟩
              | none => none
            | _ => none
          | _ => none
        | none => none
      else none
    | _ => none
  | _, _, _ => none
def opMapUpdate (C : Ctx) (T : Tr CV) (s : St) (t : TypeId) (x i v : Operand) : Option OR :=
  match C.ty t, ev T x, ev T i, ev T v with
  | some r, some (.map b), some key, some c =>
    match r.desc with
    | .map kt e =>
      bif keyOkE C kt key then
        match s.getX b with
        | some (.map es) => match findE C kt key es 0 s with
          | some (some (n, _), s') => some ⟨undefC, s'.setX b (.map (es.set n (key, c))), [b], [b]⟩
          | some (none, s') => some ⟨undefC, s'.setX b (.map (es ++ [(key, c)])), [b], [b]⟩
          | none => none
        | _ => none
      else none
    | _ => none
  | _, _, _, _ => none
/-- The entry of a key, made where there is none: its value, and its number. (Entries are numbered as they come: none is ever deleted.) -/
def opMapEntry (C : Ctx) (T : Tr CV) (s : St) (t : TypeId) (x i : Operand) : Option OR :=
  match C.ty t, ev T x, ev T i with
  | some r, some (.map b), some key =>
    match r.desc with
    | .map kt e =>
      bif keyOkE C kt key then
        match C.zv e, s.getX b with
        | some z, some (.map es) => match findE C kt key es 0 s with
          | some (some (n, v), s') => some ⟨.tup [v, .int .i64 (.c n)], s'.setX b (.map (es.set n (key, v))), [b], [b]⟩
          | some (none, s') => some ⟨.tup [z, .int .i64 (.c es.length)], s'.setX b (.map (es ++ [(key, z)])), [b], [b]⟩
          | none => none
        | _, _ => none
      else none
    | _ => none
  | _, _, _ => none
def opEntryStore (C : Ctx) (T : Tr CV) (s : St) (x i v : Operand) : Option OR :=
  match ev T x, ev T i, ev T v with
  | some (.map b), some (.int _ (.c n)), some c =>
    match s.getX b with
    | some (.map es) => bif decide (0 ≤ n) then
        match es[n.toNat]? with
        | some (k, _) => some ⟨undefC, s.setX b (.map (es.set n.toNat (k, c))), [b], [b]⟩
        | none => none
      else none
    | _ => none
  | _, _, _ => none
/-- An operation that calls no Go function. -/
def opE (C : Ctx) (T : Tr CV) (s : St) (o : Oper) : Option OR :=
  match o.op with
  | .move x | .assign x => opMove C T s x
  | .pick c a b => opPick C T s c a b
  | .alloc t => opAlloc C T s t
  | .box t x => opBox C T s t x
  | .build t parts => opBuild C T s t parts
  | .buildSlice t len parts => opBuildSlice C T s t len parts
  | .load t x => opLoad C T s t x
  | .store t x v => opStore C T s t x v
  | .nilCheck x => opNil C T s x
  | .binOp op t x y _ => opBin C T s op t x y
  | .unOp op _ x => opUn C T s op x
  | .convert st dt x => opConv C T s st dt x
  | .makeFunc f a b => opFunc C T s f a b
  | .makeSlice t l c => opMakeSlice C T s t l c
  | .slice t x lo hi none => opSlices C T s t x lo hi
  | .fieldAddr t x f => opFieldAddr C T s t x f
  | .field t x f => opField C T s t x f
  | .indexAddr t x i => opIndexAddr C T s t x i
  | .index t x i => opIndex C T s t x i
  | .extract x i => opExtract C T s x i
  | .makeMap t r => opMakeMap C T s t r
  | .lookup t x i ok => opLookup C T s t x i ok
  | .mapUpdate t x i v | .insert t x i v => opMapUpdate C T s t x i v
  | .mapEntry t x i => opMapEntry C T s t x i
  | .entryStore _ x i v => opEntryStore C T s x i v
  | .call { callee := .builtin b, args, argTypes } => opBuiltin C T s b args argTypes
  | _ => none
inductive Ex where
  | normal | exit (id : Nat) | ret
  deriving DecidableEq
def Ex.stays : Ex → Bool
  | .exit _ => false
  | _ => true
inductive Task where
  | call (f : Nat) (args : List CV)
  | code (c : Code) (nt : Nat) (T : Tr CV)
/-- What a task yields: a value, or how a statement was left and the temporaries. -/
inductive Res where
  | val (c : CV)
  | code (e : Ex) (T : Tr CV)
structure Out where
  res : Res
  s : St
  R : List Nat
  W : List Nat
def ins (b : Nat) (l : List Nat) : List Nat := bif l.any (Nat.beq b) then l else b :: l
def join (base : Nat) : List Nat → List Nat → List Nat
  | [], l => l
  | b :: r, l => bif Nat.blt b base then ins b (join base r l) else join base r l
/-- Whether a guarded operation is wanted. -/
def wants (ops : Array Oper) (T : Tr CV) (s : St) (o : Oper) : Option (Bool × St) :=
  match o.guard with
  | none => some (true, s)
  | some (j, want) => match (ops[j]?).bind (·.dst) with
    | none => some (false, s)
    | some t => match rd T t with
      | .bool e => match s.decide e with | some (v, s) => some (v == want, s) | none => none
      | .tup [] => some (false, s)
      | _ => none
def putT (nt : Nat) (T : Tr CV) (d : Option Tmp) (c : CV) : Option (Tr CV) :=
  match d with
  | none => some T
  | some d => bif Nat.blt d nt then some (T.set d c) else none
/-- Some temporaries are filled. -/
def putTs (nt : Nat) : Tr CV → List Tmp → List CV → Option (Tr CV)
  | T, [], [] => some T
  | T, d :: ds, c :: cs => bif Nat.blt d nt then putTs nt (T.set d c) ds cs else none
  | _, _, _ => none
/-- The jump that a round leaves pending. -/
def Ex.jump : Ex → Option Code
  | .normal => none
  | .exit i => some (.exit i)
  | .ret => some .ret
def Ex.of : Option Code → Option Ex
  | none => some .normal
  | some (.exit i) => some (.exit i)
  | some .ret => some .ret
  | _ => none
/-- A round of a range over a function. -/
def roundE (self : Task → St → Option Out) (s : St) (b : Nat) (vs : List CV) : Option OR :=
  match s.getX b with
  | some (.loop ⟨T0, nt, ps, assign, body, .ready, _⟩) =>
    match putTs nt T0 ps.toList vs with
    | none => none
    | some T1 =>
      match self (.code assign nt T1) s with
      | some ⟨.code .normal T2, s2, R1, W1⟩ =>
        match s2.getX b with
        | some (.loop ⟨T3, nt3, ps3, as3, bd3, .ready, pd3⟩) =>
          match self (.code body nt T2) (s2.setX b (.loop ⟨T3, nt3, ps3, as3, bd3, .busy, pd3⟩)) with
          | some ⟨.code e _, s4, R2, W2⟩ =>
            match s4.getX b with
            | some (.loop ⟨T5, nt5, ps5, as5, bd5, _, _⟩) =>
              some ⟨.bool (.c e.jump.isNone), s4.setX b (.loop ⟨T5, nt5, ps5, as5, bd5, bif e.jump.isNone then .ready else .done, e.jump⟩), b :: join s.next R1 (join s.next R2 []), b :: join s.next W1 (join s.next W2 [])⟩
            | _ => none
          | _ => none
        | _ => none
      | _ => none
  | _ => none
/-- Whether an operation's result decides which other ones of its region are wanted. -/
def isGuard (ops : Array Oper) (o : Oper) : Bool :=
  match o.dst with
  | none => false
  | some t => ops.toList.any fun p => match p.guard with
    | some (j, _) => match (ops[j]?).bind (·.dst) with
      | some u => Nat.beq u t
      | none => false
    | none => false
/-- A test that others hang on is asked at once. -/
def askG (ops : Array Oper) (o : Oper) (r : OR) : Option OR :=
  match r.val with
  | .bool (.x b) => bif isGuard ops o then (match r.s.tell (.x b) with | some (e, s) => some ⟨.bool e, s, r.R, r.W⟩ | none => none) else some r
  | _ => some r
/-- One operation, wanted or not. -/
def oneE0 (C : Ctx) (self : Task → St → Option Out) (ops : Array Oper) (T : Tr CV) (s : St) (o : Oper) : Option OR :=
  match wants ops T s o with
  | none => none
  | some (false, s) => some ⟨undefC, s, [], []⟩
  | some (true, s) =>
    match o.op with
    | .call { callee := .value f, args, argTypes } =>
      match ev T f, evs T args.toList with
      | some (.fn (.func g) first captured), some vs =>
        match self (.call g (first ++ vs ++ captured)) s with
        | some ⟨.val c, s, R, W⟩ => some ⟨c, s, R, W⟩
        | _ => none
      | some (.yld b), some vs => roundE self s b vs
      | _, _ => none
    | _ => opE C T s o
def oneE (C : Ctx) (self : Task → St → Option Out) (ops : Array Oper) (T : Tr CV) (s : St) (o : Oper) : Option OR :=
  match oneE0 C self ops T s o with
  | some r => askG ops o r
  | none => none
/-- What an operation did to memory: the blocks that it read and wrote, the numbers that it made. -/
structure Mk where
  R : List Nat
  W : List Nat
  lo : Nat
  hi : Nat
def allLt (n : Nat) (l : List Nat) : Bool := l.all fun b => Nat.blt b n
/-- A region's operations in the order of the text; what each one did to memory. -/
def opsE (C : Ctx) (self : Task → St → Option Out) (ops : Array Oper) (nt : Nat) : List Oper → Tr CV → St → Option (Tr CV × St × List Mk)
  | [], T, s => some (T, s, [])
  | o :: l, T, s =>
    match oneE C self ops T s o with
    | none => none
    | some r =>
      match putT nt T o.dst r.val with
      | none => none
      | some T' => match opsE C self ops nt l T' r.s with
        | none => none
        | some (T'', s'', ms) => some (T'', s'', ⟨r.R, r.W, s.next, r.s.next⟩ :: ms)
def apartL (l m : List Nat) : Bool := l.all fun a => !m.any (Nat.beq a)
def outside (lo hi : Nat) (l : List Nat) : Bool := l.all fun b => Nat.blt b lo || Nat.ble hi b
def predM (acc : List Nat) : List Edge → Nat
  | [] => 0
  | e :: l => bif Region.binds .any e then (1 <<< e.on) ||| (match acc[e.on]? with | some m => m | none => 0) ||| predM acc l else predM acc l
/-- Which operations come before each operation, as bits. -/
def preds : List Oper → List Nat → List Nat
  | [], acc => acc
  | o :: l, acc => preds l (acc ++ [predM acc o.after.toList])
/-- Two operations without an order do not meet in memory. -/
def apartMk (m n : Mk) : Bool := apartL m.W n.R && apartL m.W n.W && apartL m.R n.W && outside m.lo m.hi n.R && outside m.lo m.hi n.W
def drawOk1 (i : Nat) (m : Mk) : List Mk → List Nat → Bool
  | n :: ns, p :: ps => (Nat.testBit p i || apartMk m n) && drawOk1 i m ns ps
  | _, _ => true
def drawOk : Nat → List Mk → List Nat → Bool
  | i, m :: ms, _ :: ps => drawOk1 i m ms ps && drawOk (i + 1) ms ps
  | _, _, _ => true
/-- Nothing is written, and nothing is read that was not there before. -/
def quietB (n : Nat) (ms : List Mk) : Bool := ms.all fun m => m.W.isEmpty && (Nat.beq m.lo n || allLt n m.R)
def sumR (base : Nat) : List Mk → List Nat
  | [] => []
  | m :: l => join base m.R (sumR base l)
def sumW (base : Nat) : List Mk → List Nat
  | [] => []
  | m :: l => join base m.W (sumW base l)
def resE (C : Ctx) (T : Tr CV) (s : St) : List ResultVar → Option (List CV × List Nat)
  | [] => some ([], [])
  | .tmp t :: l => match resE C T s l with | some (m, R) => some (rd T t :: m, R) | none => none
  | .cell a t :: l => match C.ty t, rd T a, resE C T s l with
    | some r, .ptr (some (b, o)), some (m, R) =>
      bif r.agg then match s.ld b o r.size with | some x => some (.agg x :: m, b :: R) | none => none
      else match s.ld b o 1 with | some [c] => some (c :: m, b :: R) | _ => none
    | _, _, _ => none
/-- One result as it is, several as a tuple. -/
def tupC : List CV → CV
  | [v] => v
  | vs => .tup vs
def args0 : Nat → List CV → Tr CV → Tr CV
  | _, [], T => T
  | i, c :: l, T => args0 (i + 1) l (T.set i c)
mutual
/-- A value that names no block. -/
def CV.plain : CV → Bool
  | .bool _ | .int _ _ | .raw _ | .ptr none | .slc none _ _ | .emp | .junk | .any => true
  | .agg l | .tup l => CV.plains l
  | _ => false
def CV.plains : List CV → Bool
  | [] => true
  | c :: l => c.plain && CV.plains l
end
/-- A call's end: where nothing old was written and the value names no block, all that it made is forgotten. -/
def endE (s s' : St) (c : CV) (R W : List Nat) : Out :=
  bif W.isEmpty && c.plain then ⟨.val c, { s' with heap := s.heap }, R, []⟩ else ⟨.val c, s', R, W⟩
def bodyE (C : Ctx) (self : Nat → Task → St → Option Out) (f : Nat) (args : List CV) (s : St) : Option Out :=
  match C.fn f with
  | none => none
  | some fn => match fn.body with
    | none => none
    | some c =>
      bif Nat.ble args.length fn.ntmps then
        match self s.next (.code c fn.ntmps (args0 0 args .nil)) s with
        | some ⟨.code e T, s', R, W⟩ =>
          bif e.stays then
            match resE C T s' fn.results.toList with
            | some (vs, R') => some (endE s s' (tupC vs) (join s.next R' R) W)
            | none => none
          else none
        | _ => none
      else none
def callE (C : Ctx) (self : Nat → Task → St → Option Out) (f : Nat) (args : List CV) (s : St) : Option Out :=
  match C.memo f args s with
  | some (c, s', R, W) => some ⟨.val c, s', R, W⟩
  | none => bodyE C self f args s
def seqE (base : Nat) (self : Nat → Task → St → Option Out) (a b : Code) (nt : Nat) (T : Tr CV) (s : St) : Option Out :=
  match self base (.code a nt T) s with
  | some ⟨.code .normal T1, s1, R1, W1⟩ =>
    match self base (.code b nt T1) s1 with
    | some ⟨.code e T2, s2, R2, W2⟩ => some ⟨.code e T2, s2, join base R1 R2, join base W1 W2⟩
    | _ => none
  | some r => some r
  | none => none
def condE (base : Nat) (self : Nat → Task → St → Option Out) (c : Operand) (x y : Code) (nt : Nat) (T : Tr CV) (s : St) : Option Out :=
  match ev T c with
  | some (.bool e) => match s.decide e with
    | some (t, s) => self base (.code (bif t then x else y) nt T) s
    | none => none
  | _ => none
def blockE (base : Nat) (self : Nat → Task → St → Option Out) (i : Nat) (b : Code) (nt : Nat) (T : Tr CV) (s : St) : Option Out :=
  match self base (.code b nt T) s with
  | some ⟨.code (.exit j) T1, s1, R1, W1⟩ => some ⟨.code (bif Nat.beq j i then .normal else .exit j) T1, s1, R1, W1⟩
  | r => r
def loopE (base : Nat) (self : Nat → Task → St → Option Out) (b : Code) (nt : Nat) (T : Tr CV) (s : St) : Option Out :=
  match self base (.code b nt T) s with
  | some ⟨.code .normal T1, s1, R1, W1⟩ =>
    match self base (.code (.loop b) nt T1) s1 with
    | some ⟨.code e T2, s2, R2, W2⟩ => some ⟨.code e T2, s2, join base R1 R2, join base W1 W2⟩
    | _ => none
  | r => r
def regionE (C : Ctx) (base : Nat) (self : Nat → Task → St → Option Out) (ops : Array Oper) (draw : Bool) (nt : Nat) (T : Tr CV) (s : St) : Option Out :=
  match opsE C (fun t s => self s.next t s) ops nt ops.toList T s with
  | none => none
  | some (T', s', ms) =>
    bif !draw || quietB s.next ms || drawOk 0 ms (preds ops.toList []) then some ⟨.code .normal T', s', sumR base ms, sumW base ms⟩ else none
/-- A range over a function. -/
def rangeE (base : Nat) (self : Nat → Task → St → Option Out) (f : Operand) (ps : Array Tmp) (assign body : Code) (nt : Nat) (T : Tr CV) (s : St) : Option Out :=
  match ev T f with
  | some (.fn (.func g) first captured) =>
    match self (s.next + 1) (.call g (first ++ [.yld s.next] ++ captured)) (s.newX (.loop ⟨T, nt, ps, assign, body, .ready, none⟩)) with
    | some ⟨.val _, s2, R, W⟩ =>
      match s2.getX s.next with
      | some (.loop ⟨T5, nt5, ps5, as5, bd5, st5, pd5⟩) =>
        match st5, Ex.of pd5 with
        | .busy, _ => none
        | _, some e => some ⟨.code e T, s2.setX s.next (.loop ⟨T5, nt5, ps5, as5, bd5, .exhausted, pd5⟩), join base R [], join base W []⟩
        | _, none => none
      | _ => none
    | _ => none
  | _ => none
def codeE (C : Ctx) (base : Nat) (self : Nat → Task → St → Option Out) (c : Code) (nt : Nat) (T : Tr CV) (s : St) : Option Out :=
  match c with
  | .skip | .label _ => some ⟨.code .normal T, s, [], []⟩
  | .ret => some ⟨.code .ret T, s, [], []⟩
  | .exit i => some ⟨.code (.exit i) T, s, [], []⟩
  | .seq a b => seqE base self a b nt T s
  | .cond c x y => condE base self c x y nt T s
  | .block i b => blockE base self i b nt T s
  | .scope b => self base (.code b nt T) s
  | .loop b => loopE base self b nt T s
  | .region _ ops draw => regionE C base self ops draw nt T s
  | .rangeFunc f ps assign body => rangeE base self f ps assign body nt T s
  | _ => none
def stepE (C : Ctx) (base : Nat) (self : Nat → Task → St → Option Out) : Task → St → Option Out
  | .call f args, s => callE C self f args s
  | .code c nt T, s => codeE C base self c nt T s
def eval (C : Ctx) : Nat → Nat → Task → St → Option Out
  | 0 => fun _ _ _ => none
  | n + 1 => fun base t s => stepE C base (eval C n) t s
/-- What the program's own tables say of a type. -/
def tyOf (P : Program) (t : Nat) : Option TyR :=
  match P.underlying t, P.info? t with
  | some d, some i => match i.zero with
    | some z => match CV.ofVals z.cells.toList with
      | some l => bif Nat.beq l.length i.size then some ⟨d, i.size, i.bytes, l, match d with | .struct _ | .array _ _ => true | _ => false⟩ else none
      | none => none
    | none => none
  | _, _ => none
/-- What the cells of a type are whose == compares cell by cell. -/
def eqTy (P : Program) : Nat → TypeId → Option (List (Option IntKind))
  | 0, _ => none
  | d + 1, t =>
    match P.underlying t, P.info? t with
    | some (.int k), some i => bif Nat.beq i.size 1 then some [some k] else none
    | some .bool, some i => bif Nat.beq i.size 1 then some [none] else none
    | some (.struct fs), some i =>
      bif P.stoodInHeld t then none else
      match eqFs P (eqTy P d) 0 fs.toList with
      | some ks => bif Nat.beq i.size ks.length then some ks else none
      | none => none
    | some (.array n e), some i =>
      match eqTy P d e with
      | some ks => bif Nat.beq i.size (n * ks.length) then some (List.replicate n ks).flatten else none
      | none => none
    | _, _ => none
where
  eqFs (P : Program) (f : TypeId → Option (List (Option IntKind))) : Nat → List Field → Option (List (Option IntKind))
    | _, [] => some []
    | off, fd :: l =>
      match f fd.type with
      | some ks => bif Nat.beq fd.offset off && fd.name != "_" then
          match eqFs P f (off + ks.length) l with
          | some m => some (ks ++ m)
          | none => none
        else none
      | none => none
def eqOf (P : Program) (t : TypeId) : Option (List (Option IntKind)) := bif P.eqGuardType P.depth t then none else eqTy P 12 t
def St.empty : St := ⟨.nil, 0, [], []⟩
end
end Go.Proofs.Ytjdldcmcjaaibaa.Cx

/- What the package-level variables hold that the statements list. -/
namespace Go.Proofs.Ytjdldcmcjaaibaa.Cx
open Go Go.RowKit
/-- The block of each, and its cells. -/
abbrev lay : List (Nat × Array Value) := []
/-- They hold that. -/
def Laid (w : World) : Prop := ∀ x ∈ lay, ∃ t, w.heap[x.1]? = some (.cells x.2 t (0, 0))
end Go.Proofs.Ytjdldcmcjaaibaa.Cx

/- What it means that a real world stands for canonical memory; reading, writing and making blocks in both. -/
namespace Go.Proofs.Ytjdldcmcjaaibaa.Cx
set_option linter.unusedSimpArgs false
set_option linter.unusedVariables false
open Go Go.RowKit
/-! ## The regions' orders -/
/-- The order of a region's temporaries is what its edges say. -/
def apartOk1 (ops : Array Oper) (i : Nat) (o : Oper) : List Oper → List Nat → Bool
  | x :: l, p :: ps => (Nat.testBit p i || o.apart ops x) && apartOk1 ops i o l ps
  | _, _ => true
def apartOk (ops : Array Oper) : Nat → List Oper → List Nat → Bool
  | i, o :: l, _ :: ps => o.after.toList.all (fun e => !Region.binds .any e || Nat.blt e.on i) && apartOk1 ops i o l ps && apartOk ops (i + 1) l ps
  | _, _, _ => true
def regOk (ops : Array Oper) : Bool := apartOk ops 0 ops.toList (preds ops.toList [])
def regsOk : Code → Bool
  | .region _ ops draw => !draw || regOk ops
  | .seq a b => regsOk a && regsOk b
  | .cond _ a b => regsOk a && regsOk b
  | .block _ b => regsOk b
  | .loop b => regsOk b
  | .scope b => regsOk b
  | .rangeFunc _ _ a b => regsOk a && regsOk b
  | _ => true
abbrev Cur := Nat → Option Blk
/-- Entries of a map. -/
inductive MRl (ρ : Env) (σ : Mp) : List (CV × CV) → List MapEntry → Prop
  | nil : MRl ρ σ [] []
  | cons {k v : CV} {e : MapEntry} {l : List (CV × CV)} {m : List MapEntry} (hk : VR ρ σ k e.key) (hv : VR ρ σ v e.val) (t : MRl ρ σ l m) : MRl ρ σ ((k, v) :: l) (e :: m)
theorem MRl.mono {ρ : Env} {σ τ : Mp} (hl : σ.le τ) {l : List (CV × CV)} {m : List MapEntry} (h : MRl ρ σ l m) : MRl ρ τ l m := by
  induction h with
  | nil => exact .nil
  | cons hk hv _ ih => exact .cons (hk.mono hl) (hv.mono hl) ih
theorem MRl.length {ρ : Env} {σ : Mp} {l : List (CV × CV)} {m : List MapEntry} (h : MRl ρ σ l m) : m.length = l.length := by
  induction h with
  | nil => rfl
  | cons _ _ _ ih => simp [ih]
/-- A real block holds what is not cells. -/
inductive XR (ρ : Env) (σ : Mp) (w : World) (g : Nat) : BX → Prop
  | loop {r : LR} (q : Loop) (h : w.heap[g]? = some (.loop q)) (hs : q.state = r.st) (hp : q.pending = r.pend) (hps : q.params = r.ps) (ha : q.assign = r.assign) (hb : q.body = r.body) (hn : q.tmps.size = r.nt) (hT : ∀ t, VR ρ σ (match r.T.get t with | some c => c | none => .any) (q.tmps.getD t undef)) (ra : regsOk r.assign = true) (rb : regsOk r.body = true) : XR ρ σ w g (.loop r)
  | map {l : List (CV × CV)} (ents : Array MapEntry) (h : w.heap[g]? = some (.map ents ents.size)) (hb : ∀ (i : Nat) (e : MapEntry), ents[i]? = some e → e.born = i) (hm : MRl ρ σ l ents.toList) : XR ρ σ w g (.map l)
theorem XR.mono {ρ : Env} {σ τ : Mp} {w : World} {g : Nat} {x : BX} (hl : σ.le τ) (h : XR ρ σ w g x) : XR ρ τ w g x := by
  cases h with
  | loop q h hs hp hps ha hb hn hT ra rb => exact .loop q h hs hp hps ha hb hn (fun t => (hT t).mono hl) ra rb
  | map ents h hb hm => exact .map ents h hb (hm.mono hl)
theorem XR.heap {ρ : Env} {σ : Mp} {w w' : World} {g : Nat} {x : BX} (h : XR ρ σ w g x) (he : w'.heap[g]? = w.heap[g]?) : XR ρ σ w' g x := by
  cases h with
  | loop q h hs hp hps ha hb hn hT ra rb => exact .loop q (he.trans h) hs hp hps ha hb hn hT ra rb
  | map ents h hb hm => exact .map ents (he.trans h) hb hm
theorem XR.lt {ρ : Env} {σ : Mp} {w : World} {g : Nat} {x : BX} (h : XR ρ σ w g x) : g < w.heap.size := by
  cases h with
  | loop q h => exact (Array.getElem?_eq_some_iff.1 h).1
  | map ents h => exact (Array.getElem?_eq_some_iff.1 h).1
theorem XR.no_cells {ρ : Env} {σ : Mp} {w : World} {g : Nat} {x : BX} (h : XR ρ σ w g x) {c : Array Value} {t : TypeId} {p : Nat × Nat} (hc : w.heap[g]? = some (.cells c t p)) : False := by
  cases h with
  | loop q h => rw [hc] at h; cases h
  | map ents h => rw [hc] at h; cases h
/-- The real world holds, of each block that may be read and that is mapped, its cells; no two of them lie in one real block. So also of records of loops and of maps. -/
structure HR (ρ : Env) (σ : Mp) (cur : Cur) (w : World) : Prop where
  cell : ∀ b k l, cur b = some k → k.live = true → σ b = some l → ∃ c t p, w.heap[l.blk]? = some (.cells c t p) ∧ (k.ro = false → p = (0, 0)) ∧ c.size = l.size ∧ k.esz = l.esz ∧ l.base + k.cells.length ≤ l.size ∧ VRl ρ σ k.cells ((c.toList.drop l.base).take k.cells.length)
  inj : ∀ b b' k k' l l', cur b = some k → k.live = true → σ b = some l → cur b' = some k' → k'.live = true → σ b' = some l' → l.blk = l'.blk → (k.ro = false ∨ k'.ro = false) → b = b'
  spec : ∀ b k x l, cur b = some k → k.ext = some x → σ b = some l → XR ρ σ w l.blk x
  injX : ∀ b b' k k' x x' l l', cur b = some k → k.ext = some x → σ b = some l → cur b' = some k' → k'.ext = some x' → σ b' = some l' → l.blk = l'.blk → b = b'
  glob : ∀ y ∈ lay, (∃ t, w.heap[y.1]? = some (.cells y.2 t (0, 0))) ∧ ∀ b k l, cur b = some k → k.live = true → k.ro = false → σ b = some l → l.blk ≠ y.1
theorem HR.laid {ρ : Env} {σ : Mp} {cur : Cur} {w : World} (h : HR ρ σ cur w) : Laid w := fun y hy => (h.glob y hy).1
/-- But for the real blocks of W, and of numbers from base on, the world is as it was. -/
structure Keeps (σ : Mp) (base : Nat) (W : List Nat) (w w' : World) : Prop where
  os : w'.os = w.os
  tape : w'.tape = w.tape
  output : w'.output = w.output
  size : w.heap.size ≤ w'.heap.size
  block : ∀ k, k < w.heap.size → (∀ b, b ∈ W ∨ base ≤ b → ∀ l, σ b = some l → l.blk ≠ k) → w'.heap[k]? = w.heap[k]?
  loops : ∀ (k : Nat) (r : Loop), w.heap[k]? = some (.loop r) → ∃ r', w'.heap[k]? = some (.loop r')
  defd : ∀ (k : Nat), w.heap[k]? = some (.deferred (some [])) → w'.heap[k]? = some (.deferred (some []))
theorem Keeps.refl (σ : Mp) (base : Nat) (W : List Nat) (w : World) : Keeps σ base W w w := ⟨rfl, rfl, rfl, Nat.le_refl _, fun _ _ _ => rfl, fun _ r h => ⟨r, h⟩, fun _ h => h⟩
theorem Keeps.drew (σ : Mp) (base : Nat) (W : List Nat) (w : World) : Keeps σ base W w w.drew := ⟨rfl, rfl, rfl, Nat.le_refl _, fun _ _ _ => rfl, fun _ r h => ⟨r, h⟩, fun _ h => h⟩
/-- Blocks below a number lie as they lay: whatever they hold. -/
theorem Keeps.of_same {σ : Mp} {base : Nat} {W : List Nat} {w w' : World} (h1 : w'.os = w.os) (h2 : w'.tape = w.tape) (h3 : w'.output = w.output) (h4 : w.heap.size ≤ w'.heap.size) (h : ∀ k, k < w.heap.size → w'.heap[k]? = w.heap[k]?) : Keeps σ base W w w' :=
  ⟨h1, h2, h3, h4, fun k hk _ => h k hk, fun k r hr => ⟨r, (h k (Array.getElem?_eq_some_iff.1 hr).1).trans hr⟩, fun k hr => (h k (Array.getElem?_eq_some_iff.1 hr).1).trans hr⟩
/-- The new map: as the old one but on the new numbers. -/
def Ext (σ σ' : Mp) (n n' : Nat) : Prop := ∀ b, (b < n ∨ n' ≤ b) → σ' b = σ b
noncomputable def upd (cur : Cur) (n n' : Nat) (h : Tr Blk) (W : List Nat) : Cur := fun b => if b ∈ W ∨ (n ≤ b ∧ b < n') then h.get b else cur b
theorem upd_none (cur : Cur) (n : Nat) (h : Tr Blk) : upd cur n n h [] = cur := by
  funext b; unfold upd; rw [if_neg]; simp
/-- A new block lies in a new real block, or in one that was written. -/
def Fresh (σ σ' : Mp) (n n' base : Nat) (W : List Nat) (w : World) : Prop := ∀ b l, n ≤ b → b < n' → σ' b = some l → w.heap.size ≤ l.blk ∨ ∃ b0, (b0 ∈ W ∨ base ≤ b0) ∧ ∃ l0, σ b0 = some l0 ∧ l0.blk = l.blk
theorem Fresh.none (σ σ' : Mp) (n base : Nat) (W : List Nat) (w : World) : Fresh σ σ' n n base W w := fun b l h1 h2 => by omega
/-- What is left behind an operation, a call. -/
def Post (ρ : Env) (σ : Mp) (cur : Cur) (n : Nat) (w : World) (c : CV) (s' : St) (W : List Nat) (v : Value) (w' : World) : Prop :=
  ∃ σ', Ext σ σ' n s'.next ∧ VR ρ σ' c v ∧ HR ρ σ' (upd cur n s'.next s'.heap W) w' ∧ Keeps σ n W w w' ∧ Fresh σ σ' n s'.next n W w
theorem Ext.refl (σ : Mp) (n n' : Nat) : Ext σ σ n n' := fun _ _ => rfl
theorem Ext.le {σ σ' : Mp} {n n' : Nat} (h : Ext σ σ' n n') (hN : ∀ b, n ≤ b → b < n' → σ b = none) : σ.le σ' := fun b l hb => by
  by_cases h1 : b < n ∨ n' ≤ b
  · rw [h b h1]; exact hb
  · rw [hN b (by omega) (by omega)] at hb; cases hb
theorem post_pure {ρ : Env} {σ : Mp} {cur : Cur} {w : World} {c : CV} {s' : St} {v : Value} {n : Nat} (hn : s'.next = n) (hv : VR ρ σ c v) (hH : HR ρ σ cur w) : Post ρ σ cur n w c s' [] v w :=
  ⟨σ, Ext.refl _ _ _, hv, by rw [hn, upd_none]; exact hH, Keeps.refl _ _ _ _, by rw [hn]; exact Fresh.none _ _ _ _ _ _⟩
theorem HR.drew {ρ : Env} {σ : Mp} {cur : Cur} {w : World} (h : HR ρ σ cur w) : HR ρ σ cur w.drew := ⟨h.cell, h.inj, fun b k x l h1 h2 h3 => (h.spec b k x l h1 h2 h3).heap rfl, h.injX, h.glob⟩
theorem add_none (b o n : Nat) : (⟨b, o, none⟩ : Addr).add n = ⟨b, o + n, none⟩ := by
  unfold Addr.add; split
  · subst_vars; rfl
  · rfl
/-! ## Reading -/
theorem ld_parts {s : St} {b o n : Nat} {cs : List CV} (h : s.ld b o n = some cs) : ∃ k, s.heap.get b = some k ∧ k.live = true ∧ o + n ≤ k.cells.length ∧ cs = (k.cells.drop o).take n ∧ b < s.next := by
  unfold St.ld at h
  split at h
  · rename_i k hk
    refine ⟨k, hk, ?_⟩
    by_cases hc : (k.live && Nat.ble (o + n) k.cells.length && Nat.blt b s.next) = true
    · rw [hc, cond_true] at h
      simp only [Bool.and_eq_true] at hc
      exact ⟨hc.1.1, Nat.le_of_ble_eq_true hc.1.2, (Option.some.inj h).symm, Nat.lt_of_succ_le (Nat.le_of_ble_eq_true hc.2)⟩
    · rw [Bool.not_eq_true] at hc; rw [hc, cond_false] at h; cases h
  · cases h
theorem ld_run {P : Program} {ρ : Env} {σ : Mp} {cur : Cur} {w : World} {s : St} {b o n : Nat} {cs : List CV} {l : Loc} (hH : HR ρ σ cur w) (h : s.ld b o n = some cs) (hb : cur b = s.heap.get b) (hl : σ b = some l) :
    ∃ vs, (loadCells ⟨l.blk, l.base + o, none⟩ n).run P w = .ok vs.toArray w ∧ VRl ρ σ cs vs ∧ vs.length = n ∧ (loadCells ⟨l.blk, l.base + o, none⟩ n).run P w.drew = .ok vs.toArray w.drew := by
  obtain ⟨k, hk, hlive, hle, rfl, _⟩ := ld_parts h
  obtain ⟨c, t, pphc, hc, qqhc, hsz, hesz, hfit, hr⟩ := hH.cell b k l (hb.trans hk) hlive hl
  have hlen := hr.length
  simp only [List.length_take, List.length_drop, Array.length_toList] at hlen
  have h1 := (hr.drop o).take n
  have h3 : ((((c.toList.drop l.base).take k.cells.length).drop o).take n).length = n := by rw [h1.length]; simp; omega
  have key : ∀ W : World, W.heap = w.heap → (loadCells ⟨l.blk, l.base + o, none⟩ n).run P W = .ok ((((c.toList.drop l.base).take k.cells.length).drop o).take n).toArray W := fun W hW => by
   have hc : W.heap[l.blk]? = some (Obj.cells c t pphc) := by rw [hW]; exact hc
   have := run_loadCells_list (P := P) W ⟨l.blk, l.base + o, none⟩ ((((c.toList.drop l.base).take k.cells.length).drop o).take n) (fun j v hj => by
    rw [add_none]
    simp only [World.cell?, hc]
    have hj' : j < n := by rw [← h3]; exact (List.getElem?_eq_some_iff.1 hj).1
    rw [List.getElem?_take_of_lt hj', List.getElem?_drop, List.getElem?_take_of_lt (by omega), List.getElem?_drop, Array.getElem?_toList] at hj
    simpa [Nat.add_assoc] using hj)
   rw [h3] at this
   exact this
  exact ⟨_, key w rfl, h1, h3, key w.drew rfl⟩
theorem ld_run1 {P : Program} {ρ : Env} {σ : Mp} {cur : Cur} {w : World} {s : St} {b o : Nat} {c : CV} {l : Loc} (hH : HR ρ σ cur w) (h : s.ld b o 1 = some [c]) (hb : cur b = s.heap.get b) (hl : σ b = some l) :
    ∃ v, (load ⟨l.blk, l.base + o, none⟩).run P w = .ok v w ∧ VR ρ σ c v := by
  obtain ⟨vs, h1, h2, h3, _⟩ := ld_run (P := P) hH h hb hl
  obtain ⟨v, rfl⟩ : ∃ v, vs = [v] := by
    match vs, h3 with
    | [v], _ => exact ⟨v, rfl⟩
  cases h2 with
  | cons hv _ =>
    refine ⟨v, ?_, hv⟩
    have hh : (⟨l.blk, l.base + o, none⟩ : Addr).add 0 = ⟨l.blk, l.base + o, none⟩ := rfl
    simp only [loadCells, loadCellsFrom, Sem.run_bind, hh] at h1
    cases hr : (load ⟨l.blk, l.base + o, none⟩).run P w with
    | ok x w1 =>
      rw [hr] at h1
      simp only [Result.andThen, Sem.run_pure] at h1
      injection h1 with e1 e2
      subst e2
      have : x = v := by simpa using e1
      rw [this]
    | halt x w1 => rw [hr] at h1; cases h1
/-! ## A new block -/
theorem new_get (s : St) (l : List CV) (e b : Nat) : (s.new l e).heap.get b = if b = s.next then some ⟨.lit l, e, true, none⟩ else s.heap.get b := Tr.get_set _ _ _ _
theorem newB_get (s : St) (B : BC) (e b : Nat) : (s.newB B e).heap.get b = if b = s.next then some ⟨B, e, true, none⟩ else s.heap.get b := Tr.get_set _ _ _ _
theorem alloc_get {w : World} {o : Obj} {k : Nat} (h : k < w.heap.size) : (w.alloc o).heap[k]? = w.heap[k]? := Below.heap_alloc _ _ _ h
theorem alloc_new (w : World) (o : Obj) : (w.alloc o).heap[w.heap.size]? = some o := by
  show (w.heap.push o)[w.heap.size]? = some o
  simp
theorem HR.lt {ρ : Env} {σ : Mp} {cur : Cur} {w : World} (h : HR ρ σ cur w) {b : Nat} {k : Blk} {l : Loc} (h1 : cur b = some k) (h2 : k.live = true) (h3 : σ b = some l) : l.blk < w.heap.size := by
  obtain ⟨c, t, pphc, hc, qqhc, _⟩ := h.cell b k l h1 h2 h3
  exact (Array.getElem?_eq_some_iff.1 hc).1
/-- A block of which the cells up to a number are known, at a new real block; what of it was killed before is gone. -/
theorem post_newB {B : BC} {ρ : Env} {σ : Mp} {cur : Cur} {w : World} {s s0 : St} {vs : List Value} {t : TypeId} {e : Nat} {rest : List Value} {c : CV} {v : Value} {n : Nat} {K : List Nat}
    (hH : HR ρ σ cur w) (hv : VRl ρ σ B.list vs) (hn : s.next = n) (hσ : σ n = none)
    (hK : ∀ b ∈ K, b ≠ n ∧ ∀ k, s.heap.get b = some k → k.live = false ∧ k.ext = none)
    (hc : VR ρ (fun b => if b = n then some ⟨w.heap.size, 0, (vs ++ rest).length, e⟩ else σ b) c v) :
    Post ρ σ cur n w c (s.newB B e) K v (w.alloc (.cells (vs ++ rest).toArray t)) := by
  have hnx : (s.newB B e).next = n + 1 := by simp [St.newB, hn]
  have hle : σ.le (fun b => if b = n then some ⟨w.heap.size, 0, (vs ++ rest).length, e⟩ else σ b) := fun b l' hb => by
    show (if b = n then _ else σ b) = _
    rw [if_neg (fun h => by rw [h, hσ] at hb; cases hb)]; exact hb
  have hup : ∀ b k, upd cur n (n + 1) (s.newB B e).heap K b = some k → (k.live = true ∨ k.ext.isSome = true) → (b = n ∧ k = ⟨B, e, true, none⟩) ∨ (b ≠ n ∧ cur b = some k) := by
    intro b k hk hl
    unfold upd at hk
    split at hk
    · rename_i hb
      rw [newB_get, hn] at hk
      by_cases hbn : b = n
      · rw [if_pos hbn] at hk; exact .inl ⟨hbn, (Option.some.inj hk).symm⟩
      · rw [if_neg hbn] at hk
        rcases hb with hb | hb
        · have := (hK b hb).2 k hk; rw [this.1, this.2] at hl; simp at hl
        · omega
    · rename_i hb
      refine .inr ⟨fun h => hb (.inr (by omega)), hk⟩
  refine ⟨_, ?_, hc, ?_, ?_, ?_⟩
  · intro b hb
    show (if b = n then _ else σ b) = σ b
    rw [if_neg (by omega)]
  · rw [hnx]
    refine ⟨fun b k l' hk hl hl' => ?_, fun b b' k k' l1 l2 hk hl hl1 hk' hl' hl2 heq hro => ?_, fun b k x l' hk hx hl' => ?_, fun b b' k k' x x' l1 l2 hk hx hl1 hk' hx' hl2 heq => ?_, fun y hy => ?_⟩
    rotate_left 2
    · rcases hup b k hk (.inr (by rw [hx]; rfl)) with ⟨rfl, rfl⟩ | ⟨hne, hcb⟩
      · cases hx
      · simp only [if_neg hne] at hl'
        have := hH.spec b k x l' hcb hx hl'
        exact (this.heap (alloc_get this.lt)).mono hle
    · rcases hup b k hk (.inr (by rw [hx]; rfl)) with ⟨rfl, rfl⟩ | ⟨hne, hcb⟩
      · cases hx
      · rcases hup b' k' hk' (.inr (by rw [hx']; rfl)) with ⟨rfl, rfl⟩ | ⟨hne', hcb'⟩
        · cases hx'
        · simp only [if_neg hne] at hl1; simp only [if_neg hne'] at hl2
          exact hH.injX b b' k k' x x' l1 l2 hcb hx hl1 hcb' hx' hl2 heq
    · obtain ⟨⟨t0, h0⟩, hd⟩ := hH.glob y hy
      have hlt := (Array.getElem?_eq_some_iff.1 h0).1
      refine ⟨⟨t0, (alloc_get hlt).trans h0⟩, fun b k l' hk hl hr hl' => ?_⟩
      rcases hup b k hk (.inl hl) with ⟨rfl, rfl⟩ | ⟨hne, hcb⟩
      · rw [if_pos rfl] at hl'
        obtain rfl := Option.some.inj hl'
        exact Nat.ne_of_gt hlt
      · simp only [if_neg hne] at hl'
        exact hd b k l' hcb hl hr hl'
    · rcases hup b k hk (.inl hl) with ⟨rfl, rfl⟩ | ⟨hne, hcb⟩
      · rw [if_pos rfl] at hl'
        obtain rfl := Option.some.inj hl'
        have hcl : Blk.cells ⟨B, e, true, none⟩ = B.list := rfl
        rw [hcl]
        refine ⟨_, t, _, alloc_new _ _, fun _ => rfl, by simp, rfl, by simp [hv.length], ?_⟩
        have hlen := hv.length
        have : ((((vs ++ rest).toArray).toList.drop 0).take B.list.length) = vs := by simp [← hlen]
        rw [this]
        exact hv.mono hle
      · simp only [if_neg hne] at hl'
        obtain ⟨c', t', pph1, h1, qqh1, h2, h3, h5, h4⟩ := hH.cell b k l' hcb hl hl'
        exact ⟨c', t', pph1, by rw [alloc_get (Array.getElem?_eq_some_iff.1 h1).1]; exact h1, qqh1, h2, h3, h5, h4.mono hle⟩
    · rcases hup b k hk (.inl hl) with ⟨rfl, rfl⟩ | ⟨hne, hcb⟩ <;> rcases hup b' k' hk' (.inl hl') with ⟨rfl, rfl⟩ | ⟨hne', hcb'⟩
      · rfl
      · rw [if_pos rfl] at hl1
        obtain rfl := Option.some.inj hl1
        simp only [if_neg hne'] at hl2
        have := hH.lt hcb' hl' hl2
        simp only at heq; omega
      · rw [if_pos rfl] at hl2
        obtain rfl := Option.some.inj hl2
        simp only [if_neg hne] at hl1
        have := hH.lt hcb hl hl1
        simp only at heq; omega
      · simp only [if_neg hne] at hl1; simp only [if_neg hne'] at hl2
        exact hH.inj b b' k k' l1 l2 hcb hl hl1 hcb' hl' hl2 heq hro
  · exact .of_same rfl rfl rfl (by simp) fun k hk => alloc_get hk
  · intro b l' h1 h2 h3
    rw [hnx] at h2
    obtain rfl : b = n := by omega
    simp only [if_true] at h3
    obtain rfl := Option.some.inj h3
    exact .inl (Nat.le_refl _)
theorem post_new {ρ : Env} {σ : Mp} {cur : Cur} {w : World} {s s0 : St} {l : List CV} {vs : List Value} {t : TypeId} {e : Nat} {rest : List Value} {c : CV} {v : Value} {n : Nat} {K : List Nat}
    (hH : HR ρ σ cur w) (hv : VRl ρ σ l vs) (hn : s.next = n) (hσ : σ n = none)
    (hK : ∀ b ∈ K, b ≠ n ∧ ∀ k, s.heap.get b = some k → k.live = false ∧ k.ext = none)
    (hc : VR ρ (fun b => if b = n then some ⟨w.heap.size, 0, (vs ++ rest).length, e⟩ else σ b) c v) :
    Post ρ σ cur n w c (s.new l e) K v (w.alloc (.cells (vs ++ rest).toArray t)) := post_newB (B := .lit l) (s0 := s0) hH hv hn hσ hK hc
/-! ## Writing -/
theorem setRow_get {w : World} {g k : Nat} {cs : Array Value} (h : k ≠ g) : (w.setRow g cs).heap[k]? = w.heap[k]? := by
  simp only [World.setRow, Array.getElem?_modify]
  rw [if_neg (by omega)]
theorem keeps_setRow {σ : Mp} {base : Nat} {W : List Nat} {w : World} {g : Nat} {c cs : Array Value} {t : TypeId} {p : Nat × Nat} (hc : w.heap[g]? = some (.cells c t p)) (h : ∀ j, (∀ b, b ∈ W ∨ base ≤ b → ∀ l, σ b = some l → l.blk ≠ j) → g ≠ j) : Keeps σ base W w (w.setRow g cs) := by
  have ne : ∀ (k : Nat) (o : Obj), w.heap[k]? = some o → (∀ c t p, o ≠ .cells c t p) → k ≠ g := fun k o hk ho e => by subst e; rw [hc] at hk; cases hk; exact ho _ _ _ rfl
  refine ⟨rfl, rfl, rfl, by simp [World.setRow], fun j hj hne => setRow_get (fun e => h j hne e.symm), fun k r hk => ⟨r, ?_⟩, fun k hk => ?_⟩
  · rw [setRow_get (ne k _ hk (fun _ _ _ h => by cases h))]; exact hk
  · rw [setRow_get (ne k _ hk (fun _ _ _ h => by cases h))]; exact hk
theorem st_parts {s s' : St} {b o : Nat} {l : List CV} (h : s.st b o l = some s') : ∃ k, s.heap.get b = some k ∧ k.live = true ∧ o + l.length ≤ k.cells.length ∧ (∀ c ∈ l, c.flat = true) ∧ b < s.next ∧ k.ro = false ∧
    s' = { s with heap := s.heap.set b { k with body := .lit (k.cells.take o ++ l ++ k.cells.drop (o + l.length)) } } := by
  unfold St.st at h
  split at h
  · rename_i k hk
    refine ⟨k, hk, ?_⟩
    by_cases hc : (k.live && Nat.ble (o + l.length) k.cells.length && l.all CV.flat && Nat.blt b s.next && !k.ro) = true
    · rw [hc, cond_true] at h
      simp only [Bool.and_eq_true, List.all_eq_true, Bool.not_eq_true'] at hc
      exact ⟨hc.1.1.1.1, Nat.le_of_ble_eq_true hc.1.1.1.2, hc.1.1.2, Nat.lt_of_succ_le (Nat.le_of_ble_eq_true hc.1.2), hc.2, (Option.some.inj h).symm⟩
    · rw [Bool.not_eq_true] at hc; rw [hc, cond_false] at h; cases h
  · cases h
theorem VRl.flat {ρ : Env} {σ : Mp} : ∀ {l : List CV} {vs : List Value}, VRl ρ σ l vs → (∀ c ∈ l, c.flat = true) → ∀ v ∈ vs, v.oneCell' = true
  | _, _, .nil, _, v, hv => by cases hv
  | _, _, .cons h t, hf, v, hv => by
    cases hv with
    | head => exact h.flat (hf _ (by simp))
    | tail _ hv => exact VRl.flat t (fun c hc => hf c (by simp [hc])) v hv
theorem seg_part {α : Type} (C vs : List α) (B o L : Nat) (h1 : o + vs.length ≤ L) (h2 : B + L ≤ C.length) : ((C.take (B + o) ++ vs ++ C.drop (B + o + vs.length)).drop B).take L = ((C.drop B).take L).take o ++ vs ++ ((C.drop B).take L).drop (o + vs.length) := by
  apply List.ext_getElem?
  intro i
  by_cases hL : i < L
  · rw [List.getElem?_take_of_lt hL, List.getElem?_drop]
    by_cases a : i < o
    · rw [List.append_assoc, List.getElem?_append_left (by simp; omega), List.getElem?_take_of_lt (by omega), List.append_assoc, List.getElem?_append_left (by simp; omega), List.getElem?_take_of_lt a, List.getElem?_take_of_lt hL, List.getElem?_drop]
    · by_cases b : i < o + vs.length
      · rw [List.getElem?_append_left (by simp; omega), List.getElem?_append_right (by simp; omega), List.getElem?_append_left (by simp; omega), List.getElem?_append_right (by simp; omega)]
        congr 1; simp; omega
      · rw [List.getElem?_append_right (by simp; omega), List.getElem?_append_right (by simp; omega), List.getElem?_drop, List.getElem?_drop, List.getElem?_take_of_lt (by simp; omega), List.getElem?_drop]
        congr 1; simp; omega
  · rw [List.getElem?_eq_none (by simp; omega), List.getElem?_eq_none (by simp; omega)]
theorem st_runB {P : Program} {ρ : Env} {σ : Mp} {cur : Cur} {w : World} {s s' : St} {b o : Nat} {l : List CV} {vs : List Value} {lc : Loc} {k : Blk} {B : BC} (hH : HR ρ σ cur w) (hk : s.heap.get b = some k) (hro : k.ro = false) (hlive : k.live = true) (hle : o + l.length ≤ k.cells.length) (hflat : ∀ c ∈ l, c.flat = true)
    (hB : ∀ us, VRl ρ σ k.cells us → VRl ρ σ B.list (us.take o ++ vs ++ us.drop (o + vs.length))) (hsn : s'.next = s.next) (hsh : s'.heap = s.heap.set b { k with body := B }) (hb : cur b = s.heap.get b) (hl : σ b = some lc) (hv : VRl ρ σ l vs) :
    ∃ w', (storeCells ⟨lc.blk, lc.base + o, none⟩ vs).run P w = .ok () w' ∧ HR ρ σ (upd cur s.next s'.next s'.heap [b]) w' ∧ Keeps σ s.next [b] w w' := by
  rw [hsn, hsh]
  obtain ⟨c, t, pphc, hc, qqhc, hsz, hesz, hfit, hr⟩ := hH.cell b k lc (hb.trans hk) hlive hl
  obtain rfl := qqhc hro
  have hlen := hr.length
  simp only [List.length_take, List.length_drop, Array.length_toList] at hlen
  have hvl := hv.length
  have hrun := run_storeCells_at P lc.blk (lc.base + o) t vs 0 c w hc (by omega) (hv.flat hflat)
  refine ⟨_, hrun, ?_, ?_⟩
  · have hup : ∀ b' k', upd cur s.next s.next (s.heap.set b { k with body := B }) [b] b' = some k' →
        (b' = b ∧ k' = { k with body := B }) ∨ (b' ≠ b ∧ cur b' = some k') := by
      intro b' k' h'
      unfold upd at h'
      by_cases e : b' = b
      · rw [if_pos (by simp [e]), Tr.get_set, if_pos e] at h'
        exact .inl ⟨e, (Option.some.inj h').symm⟩
      · rw [if_neg (by simp [e])] at h'
        exact .inr ⟨e, h'⟩
    refine ⟨fun b' k' l' hk' hlv' hl' => ?_, fun b1 b2 k1 k2 l1 l2 h1 h2 h3 h4 h5 h6 h7 h8 => ?_, fun b' k' x l' hk' hx hl' => ?_, fun b1 b2 k1 k2 x1 x2 l1 l2 h1 h2 h3 h4 h5 h6 h7 => ?_, fun y hy => ?_⟩
    rotate_left 2
    · rcases hup b' k' hk' with ⟨rfl, rfl⟩ | ⟨hne, hcb⟩
      · rw [hl] at hl'
        obtain rfl := Option.some.inj hl'
        exact ((hH.spec _ k x lc (hb.trans hk) hx hl).no_cells hc).elim
      · have := hH.spec b' k' x l' hcb hx hl'
        exact this.heap (setRow_get (fun e => (e ▸ this).no_cells hc))
    · rcases hup b1 k1 h1 with ⟨rfl, rfl⟩ | ⟨hne, hcb⟩
      · exact ((hH.spec _ k x1 lc (hb.trans hk) h2 hl).no_cells hc).elim
      · rcases hup b2 k2 h4 with ⟨rfl, rfl⟩ | ⟨hne', hcb'⟩
        · exact ((hH.spec _ k x2 lc (hb.trans hk) h5 hl).no_cells hc).elim
        · exact hH.injX b1 b2 k1 k2 x1 x2 l1 l2 hcb h2 h3 hcb' h5 h6 h7
    · obtain ⟨⟨t0, h0⟩, hd⟩ := hH.glob y hy
      have hne0 := hd b k lc (hb.trans hk) hlive hro hl
      refine ⟨⟨t0, (setRow_get (Ne.symm hne0)).trans h0⟩, fun b' k' l' hk' hlv hr hl' => ?_⟩
      rcases hup b' k' hk' with ⟨rfl, rfl⟩ | ⟨hne, hcb⟩
      · rw [hl] at hl'
        obtain rfl := Option.some.inj hl'
        exact hne0
      · exact hd _ _ _ hcb hlv hr hl'
    · rcases hup b' k' hk' with ⟨rfl, rfl⟩ | ⟨hne, hcb⟩
      · rw [hl] at hl'
        obtain rfl := Option.some.inj hl'
        have hcl : Blk.cells { k with body := B } = B.list := rfl
        have hnew := hB _ hr
        have hnl := hnew.length
        simp only [List.length_append, List.length_take, List.length_drop, Array.length_toList] at hnl
        rw [hcl]
        refine ⟨_, t, _, setRow_heap w _ c _ t _ hc, fun _ => rfl, ?_, hesz, ?_, ?_⟩
        · simp only [List.size_toArray, List.length_append, List.length_take, List.length_drop, Array.length_toList]; omega
        · omega
        · have e := seg_part c.toList vs lc.base o k.cells.length (by omega) (by simp only [Array.length_toList]; omega)
          rw [← hnl, show min o (min k.cells.length (c.size - lc.base)) + vs.length + (min k.cells.length (c.size - lc.base) - (o + vs.length)) = k.cells.length by omega]
          simp only [Nat.add_zero]
          rw [e]; exact hnew
      · obtain ⟨c', t', ppe1, e1, qqe1, e2, e3, e5, e4⟩ := hH.cell b' k' l' hcb hlv' hl'
        have hnb : l'.blk ≠ lc.blk := fun e => hne (hH.inj b' b k' k l' lc hcb hlv' hl' (hb.trans hk) hlive hl e (.inr hro))
        exact ⟨c', t', ppe1, by rw [setRow_get hnb]; exact e1, qqe1, e2, e3, e5, e4⟩
    · rcases hup b1 k1 h1 with ⟨rfl, rfl⟩ | ⟨hne, hcb⟩ <;> rcases hup b2 k2 h4 with ⟨rfl, rfl⟩ | ⟨hne', hcb'⟩
      · rfl
      · exact hH.inj _ _ k k2 l1 l2 (hb.trans hk) hlive h3 hcb' h5 h6 h7 (.inl hro)
      · exact hH.inj _ _ k1 k l1 l2 hcb h2 h3 (hb.trans hk) hlive h6 h7 (.inr hro)
      · exact hH.inj b1 b2 k1 k2 l1 l2 hcb h2 h3 hcb' h5 h6 h7 h8
  · exact keeps_setRow hc fun j hne => hne b (.inl (by simp)) lc hl
theorem st_run {P : Program} {ρ : Env} {σ : Mp} {cur : Cur} {w : World} {s s' : St} {b o : Nat} {l : List CV} {vs : List Value} {lc : Loc} (hH : HR ρ σ cur w) (h : s.st b o l = some s') (hb : cur b = s.heap.get b) (hl : σ b = some lc) (hv : VRl ρ σ l vs) :
    ∃ w', (storeCells ⟨lc.blk, lc.base + o, none⟩ vs).run P w = .ok () w' ∧ HR ρ σ (upd cur s.next s'.next s'.heap [b]) w' ∧ Keeps σ s.next [b] w w' := by
  obtain ⟨k, hk, hlive, hle, hflat, _, hro, rfl⟩ := st_parts h
  refine st_runB hH hk hro hlive hle hflat (B := .lit _) (fun us hus => ?_) rfl rfl hb hl hv
  rw [hv.length]
  exact ((hus.take o).append hv).append (hus.drop _)
/-! ## An append in place -/
theorem kill_get {s : St} {b : Nat} {k : Blk} (h : s.heap.get b = some k) (x : Nat) : (s.kill b).heap.get x = if x = b then some { k with live := false, ext := none } else s.heap.get x := by
  unfold St.kill; rw [h]; exact Tr.get_set _ _ _ _
theorem kill_next (s : St) (b : Nat) : (s.kill b).next = s.next := by unfold St.kill; split <;> rfl
theorem kill_pc (s : St) (b : Nat) : (s.kill b).pc = s.pc := by unfold St.kill; split <;> rfl
theorem place_runB {B : BC} {P : Program} {ρ : Env} {σ : Mp} {cur : Cur} {w : World} {s : St} {b o m : Nat} {l : List CV} {vs : List Value} {lc : Loc} {k : Blk} (hB : ∀ us, VRl ρ σ k.cells us → VRl ρ σ B.list ((us.drop o).take m ++ vs)) (hH : HR ρ σ cur w) (hk : s.heap.get b = some k) (hro : k.ro = false) (hlive : k.live = true) (hle : o + m ≤ k.cells.length) (hb : cur b = s.heap.get b) (hl : σ b = some lc) (hv : VRl ρ σ l vs) (hflat : ∀ c ∈ l, c.flat = true) (hfit2 : lc.base + o + m + vs.length ≤ lc.size) (hσ : σ s.next = none) :
    ∃ w', (storeCells ⟨lc.blk, lc.base + o + m, none⟩ vs).run P w = .ok () w' ∧ HR ρ (fun x => if x = s.next then some ⟨lc.blk, lc.base + o, lc.size, lc.esz⟩ else σ x) (upd cur s.next (s.next + 1) ((s.kill b).newB B k.esz).heap [b]) w' ∧ Keeps σ s.next [b] w w' := by
  obtain ⟨c, t, pphc, hc, qqhc, hsz, hesz, hfit, hr⟩ := hH.cell b k lc (hb.trans hk) hlive hl
  obtain rfl := qqhc hro
  have hlen := hr.length
  simp only [List.length_take, List.length_drop, Array.length_toList] at hlen
  have hvl := hv.length
  have hrun := run_storeCells_at P lc.blk (lc.base + o + m) t vs 0 c w hc (by omega) (hv.flat hflat)
  have hle' : σ.le (fun x => if x = s.next then some ⟨lc.blk, lc.base + o, lc.size, lc.esz⟩ else σ x) := fun x l' hx => by
    show (if x = s.next then _ else σ x) = _
    rw [if_neg (fun h => by rw [h, hσ] at hx; cases hx)]; exact hx
  have hup : ∀ x kx, upd cur s.next (s.next + 1) ((s.kill b).newB B k.esz).heap [b] x = some kx → (kx.live = true ∨ kx.ext.isSome = true) → (x = s.next ∧ kx = ⟨B, k.esz, true, none⟩) ∨ (x ≠ s.next ∧ x ≠ b ∧ cur x = some kx) := by
    intro x kx hx hlv
    unfold upd at hx
    split at hx
    · rename_i hxx
      rw [newB_get, kill_next] at hx
      by_cases e : x = s.next
      · rw [if_pos e] at hx; exact .inl ⟨e, (Option.some.inj hx).symm⟩
      · rw [if_neg e, kill_get hk] at hx
        have e2 : x = b := by rcases hxx with h | h; · simpa using h
                              · omega
        rw [if_pos e2] at hx
        obtain rfl := Option.some.inj hx
        simp at hlv
    · rename_i hxx
      exact .inr ⟨fun e => hxx (.inr (by omega)), fun e => hxx (.inl (by simp [e])), hx⟩
  refine ⟨_, hrun, ?_, ?_⟩
  · refine ⟨fun x kx lx hx hlv hlx => ?_, fun b1 b2 k1 k2 l1 l2 h1 h2 h3 h4 h5 h6 h7 h8 => ?_, fun x kx y lx hx hy hlx => ?_, fun b1 b2 k1 k2 x1 x2 l1 l2 h1 h2 h3 h4 h5 h6 h7 => ?_, fun y hy => ?_⟩
    rotate_left 2
    · rcases hup x kx hx (.inr (by rw [hy]; rfl)) with ⟨rfl, rfl⟩ | ⟨hne, hnb, hcx⟩
      · cases hy
      · simp only [if_neg hne] at hlx
        have := hH.spec x kx y lx hcx hy hlx
        exact (this.heap (setRow_get (fun e => (e ▸ this).no_cells hc))).mono hle'
    · rcases hup b1 k1 h1 (.inr (by rw [h2]; rfl)) with ⟨rfl, rfl⟩ | ⟨hne, hnb, hcb⟩
      · cases h2
      · rcases hup b2 k2 h4 (.inr (by rw [h5]; rfl)) with ⟨rfl, rfl⟩ | ⟨hne', hnb', hcb'⟩
        · cases h5
        · simp only [if_neg hne] at h3; simp only [if_neg hne'] at h6
          exact hH.injX b1 b2 k1 k2 x1 x2 l1 l2 hcb h2 h3 hcb' h5 h6 h7
    · obtain ⟨⟨t0, h0⟩, hd⟩ := hH.glob y hy
      have hne0 := hd b k lc (hb.trans hk) hlive hro hl
      refine ⟨⟨t0, (setRow_get (Ne.symm hne0)).trans h0⟩, fun x kx lx hx hlv hr hlx => ?_⟩
      rcases hup x kx hx (.inl hlv) with ⟨rfl, rfl⟩ | ⟨hne, hnb, hcx⟩
      · rw [if_pos rfl] at hlx
        obtain rfl := Option.some.inj hlx
        exact hne0
      · simp only [if_neg hne] at hlx
        exact hd _ _ _ hcx hlv hr hlx
    · rcases hup x kx hx (.inl hlv) with ⟨rfl, rfl⟩ | ⟨hne, hnb, hcx⟩
      · rw [if_pos rfl] at hlx
        obtain rfl := Option.some.inj hlx
        have hcl : Blk.cells ⟨B, k.esz, true, none⟩ = B.list := rfl
        have hnew := hB _ hr
        have hnl := hnew.length
        simp only [List.length_append, List.length_take, List.length_drop, Array.length_toList] at hnl
        rw [hcl]
        refine ⟨_, t, _, setRow_heap w _ c _ t _ hc, fun _ => rfl, ?_, hesz, ?_, ?_⟩
        · simp only [List.size_toArray, List.length_append, List.length_take, List.length_drop, Array.length_toList]; omega
        · show lc.base + o + B.list.length ≤ lc.size
          omega
        · refine VRl.mono hle' ?_
          have hbl : B.list.length = m + vs.length := by omega
          rw [hbl]
          simp only [Nat.add_zero]
          have e : ((c.toList.take (lc.base + o + m) ++ vs ++ c.toList.drop (lc.base + o + m + vs.length)).drop (lc.base + o)).take (m + vs.length) = (((c.toList.drop lc.base).take k.cells.length).drop o).take m ++ vs := by
            apply List.ext_getElem?
            intro i
            by_cases hL : i < m + vs.length
            · rw [List.getElem?_take_of_lt hL, List.getElem?_drop]
              by_cases a1 : i < m
              · rw [List.append_assoc, List.getElem?_append_left (by simp; omega), List.getElem?_take_of_lt (by omega), List.getElem?_append_left (by simp; omega), List.getElem?_take_of_lt a1, List.getElem?_drop, List.getElem?_take_of_lt (by omega), List.getElem?_drop]
                congr 1; omega
              · rw [List.getElem?_append_left (by simp; omega), List.getElem?_append_right (by simp; omega), List.getElem?_append_right (by simp; omega)]
                congr 1; simp; omega
            · rw [List.getElem?_eq_none (by simp; omega), List.getElem?_eq_none (by simp; omega)]
          show VRl ρ σ B.list ((((c.toList.take (lc.base + o + m) ++ vs ++ c.toList.drop (lc.base + o + m + vs.length)).toArray).toList.drop (lc.base + o)).take (m + vs.length))
          rw [show ((c.toList.take (lc.base + o + m) ++ vs ++ c.toList.drop (lc.base + o + m + vs.length)).toArray).toList = (c.toList.take (lc.base + o + m) ++ vs ++ c.toList.drop (lc.base + o + m + vs.length)) from rfl, e]
          exact hnew
      · simp only [if_neg hne] at hlx
        obtain ⟨c', t', ppe1, e1, qqe1, e2, e3, e5, e4⟩ := hH.cell x kx lx hcx hlv hlx
        have hnb' : lx.blk ≠ lc.blk := fun e => hnb (hH.inj x b kx k lx lc hcx hlv hlx (hb.trans hk) hlive hl e (.inr hro))
        exact ⟨c', t', ppe1, by rw [setRow_get hnb']; exact e1, qqe1, e2, e3, e5, e4.mono hle'⟩
    · rcases hup b1 k1 h1 (.inl h2) with ⟨rfl, rfl⟩ | ⟨hne, hnb, hcb⟩ <;> rcases hup b2 k2 h4 (.inl h5) with ⟨rfl, rfl⟩ | ⟨hne', hnb', hcb'⟩
      · rfl
      · rw [if_pos rfl] at h3
        obtain rfl := Option.some.inj h3
        simp only [if_neg hne'] at h6
        exact absurd (hH.inj b b2 k k2 lc l2 (hb.trans hk) hlive hl hcb' h5 h6 h7 (.inl hro)).symm hnb'
      · rw [if_pos rfl] at h6
        obtain rfl := Option.some.inj h6
        simp only [if_neg hne] at h3
        exact absurd (hH.inj b1 b k1 k l1 lc hcb h2 h3 (hb.trans hk) hlive hl h7 (.inr hro)) hnb
      · simp only [if_neg hne] at h3; simp only [if_neg hne'] at h6
        exact hH.inj b1 b2 k1 k2 l1 l2 hcb h2 h3 hcb' h5 h6 h7 h8
  · exact keeps_setRow hc fun j hne => hne b (.inl (by simp)) lc hl
theorem place_run {P : Program} {ρ : Env} {σ : Mp} {cur : Cur} {w : World} {s : St} {b o m : Nat} {l : List CV} {vs : List Value} {lc : Loc} {k : Blk} (hH : HR ρ σ cur w) (hk : s.heap.get b = some k) (hro : k.ro = false) (hlive : k.live = true) (hle : o + m ≤ k.cells.length) (hb : cur b = s.heap.get b) (hl : σ b = some lc) (hv : VRl ρ σ l vs) (hflat : ∀ c ∈ l, c.flat = true) (hfit2 : lc.base + o + m + vs.length ≤ lc.size) (hσ : σ s.next = none) :
    ∃ w', (storeCells ⟨lc.blk, lc.base + o + m, none⟩ vs).run P w = .ok () w' ∧ HR ρ (fun x => if x = s.next then some ⟨lc.blk, lc.base + o, lc.size, lc.esz⟩ else σ x) (upd cur s.next (s.next + 1) ((s.kill b).new ((k.cells.drop o).take m ++ l) k.esz).heap [b]) w' ∧ Keeps σ s.next [b] w w' :=
  place_runB (B := .lit _) (fun us hus => ((hus.drop o).take m).append hv) hH hk hro hlive hle hb hl hv hflat hfit2 hσ
/-! ## Blocks that hold no cells -/
theorem getX_parts {s : St} {b : Nat} {x : BX} (h : s.getX b = some x) : ∃ k, s.heap.get b = some k ∧ k.ext = some x ∧ b < s.next := by
  unfold St.getX at h
  split at h
  · rename_i k hk
    cases hb : Nat.blt b s.next with
    | false => rw [hb, cond_false] at h; cases h
    | true => rw [hb, cond_true] at h; exact ⟨k, hk, h, Nat.lt_of_succ_le (Nat.le_of_ble_eq_true hb)⟩
  · cases h
theorem setX_get (s : St) (b : Nat) (x : BX) (c : Nat) : (s.setX b x).heap.get c = if c = b then some ⟨.lit [], 0, false, some x⟩ else s.heap.get c := Tr.get_set _ _ _ _
theorem newX_get (s : St) (x : BX) (c : Nat) : (s.newX x).heap.get c = if c = s.next then some ⟨.lit [], 0, false, some x⟩ else s.heap.get c := Tr.get_set _ _ _ _
/-- An object that is not cells becomes another one of its kind. -/
theorem setX_run {ρ : Env} {σ : Mp} {cur : Cur} {w : World} {s s0 : St} {b : Nat} {x y : BX} {l : Loc} {o : Obj} (hH : HR ρ σ cur w) (hx : s0.getX b = some x) (hb : cur b = s0.heap.get b) (hl : σ b = some l)
    (hy : XR ρ σ (w.putObj l.blk o) l.blk y) (hlp : ∀ r, w.heap[l.blk]? = some (.loop r) → ∃ r', o = .loop r') : HR ρ σ (upd cur s.next s.next (s.setX b y).heap [b]) (w.putObj l.blk o) ∧ Keeps σ s.next [b] w (w.putObj l.blk o) := by
  obtain ⟨k, hk, hkx, _⟩ := getX_parts hx
  have hX := hH.spec b k x l (hb.trans hk) hkx hl
  have hlt := hX.lt
  have hup : ∀ c kc, upd cur s.next s.next (s.setX b y).heap [b] c = some kc → (c = b ∧ kc = ⟨.lit [], 0, false, some y⟩) ∨ (c ≠ b ∧ cur c = some kc) := by
    intro c kc h
    unfold upd at h
    by_cases e : c = b
    · rw [if_pos (by simp [e]), setX_get, if_pos e] at h
      exact .inl ⟨e, (Option.some.inj h).symm⟩
    · rw [if_neg (by simp [e])] at h
      exact .inr ⟨e, h⟩
  have other : ∀ k', k' ≠ l.blk → (w.putObj l.blk o).heap[k']? = w.heap[k']? := fun k' h => World.putObj_heap_other h
  refine ⟨⟨fun c kc lc h1 h2 h3 => ?_, fun b1 b2 k1 k2 l1 l2 h1 h2 h3 h4 h5 h6 h7 h8 => ?_, fun c kc z lc h1 h2 h3 => ?_, fun b1 b2 k1 k2 x1 x2 l1 l2 h1 h2 h3 h4 h5 h6 h7 => ?_, fun y hy => ?_⟩, rfl, rfl, rfl, by simp, fun j hj hne => other j (fun e => hne b (.inl (by simp)) l hl e.symm), fun j r hj => ?_, fun j hj => ?_⟩
  · rcases hup c kc h1 with ⟨rfl, rfl⟩ | ⟨hne, hc⟩
    · cases h2
    · obtain ⟨cs, t, ppe1, e1, qqe1, e2⟩ := hH.cell c kc lc hc h2 h3
      exact ⟨cs, t, ppe1, by rw [other _ (fun e => hX.no_cells (e ▸ e1))]; exact e1, qqe1, e2⟩
  · rcases hup b1 k1 h1 with ⟨rfl, rfl⟩ | ⟨hne, hc⟩
    · cases h2
    · rcases hup b2 k2 h4 with ⟨rfl, rfl⟩ | ⟨hne', hc'⟩
      · cases h5
      · exact hH.inj b1 b2 k1 k2 l1 l2 hc h2 h3 hc' h5 h6 h7 h8
  · rcases hup c kc h1 with ⟨rfl, rfl⟩ | ⟨hne, hc⟩
    · cases h2
      rw [hl] at h3
      obtain rfl := Option.some.inj h3
      exact hy
    · have := hH.spec c kc z lc hc h2 h3
      exact this.heap (other _ (fun e => hne (hH.injX c b kc k z x lc l hc h2 h3 (hb.trans hk) hkx hl e)))
  · have inj : ∀ c kc z lc, cur c = some kc → kc.ext = some z → σ c = some lc → lc.blk = l.blk → c = b := fun c kc z lc q1 q2 q3 q4 => hH.injX c b kc k z x lc l q1 q2 q3 (hb.trans hk) hkx hl q4
    rcases hup b1 k1 h1 with ⟨rfl, rfl⟩ | ⟨hne, hc⟩ <;> rcases hup b2 k2 h4 with ⟨rfl, rfl⟩ | ⟨hne', hc'⟩
    · rfl
    · rw [hl] at h3
      obtain rfl := Option.some.inj h3
      exact (inj b2 k2 x2 l2 hc' h5 h6 h7.symm).symm
    · rw [hl] at h6
      obtain rfl := Option.some.inj h6
      exact inj b1 k1 x1 l1 hc h2 h3 h7
    · exact hH.injX b1 b2 k1 k2 x1 x2 l1 l2 hc h2 h3 hc' h5 h6 h7
  · obtain ⟨⟨t0, h0⟩, hd⟩ := hH.glob y hy
    refine ⟨⟨t0, (other _ (fun e => hX.no_cells (e ▸ h0))).trans h0⟩, fun c kc lc q1 q2 q3 q4 => ?_⟩
    rcases hup c kc q1 with ⟨rfl, rfl⟩ | ⟨hne, hc⟩
    · cases q2
    · exact hd _ _ _ hc q2 q3 q4
  · by_cases e : j = l.blk
    · subst e
      obtain ⟨r', rfl⟩ := hlp r hj
      exact ⟨r', World.putObj_heap_same hlt⟩
    · exact ⟨r, by rw [other j e]; exact hj⟩
  · by_cases e : j = l.blk
    · subst e
      cases hX with
      | loop q h => rw [hj] at h; cases h
      | map es h => rw [hj] at h; cases h
    · rw [other j e]; exact hj
/-- A new object that is not cells. -/
theorem newX_run {ρ : Env} {σ : Mp} {cur : Cur} {w : World} {s : St} {x : BX} {o : Obj} (hH : HR ρ σ cur w) (hσ : σ s.next = none) (hx : XR ρ (fun b => if b = s.next then some ⟨w.heap.size, 0, 0, 0⟩ else σ b) (w.alloc o) w.heap.size x) :
    HR ρ (fun b => if b = s.next then some ⟨w.heap.size, 0, 0, 0⟩ else σ b) (upd cur s.next (s.next + 1) (s.newX x).heap []) (w.alloc o) ∧ Ext σ (fun b => if b = s.next then some ⟨w.heap.size, 0, 0, 0⟩ else σ b) s.next (s.next + 1) ∧
      Keeps σ s.next [] w (w.alloc o) ∧ Fresh σ (fun b => if b = s.next then some ⟨w.heap.size, 0, 0, 0⟩ else σ b) s.next (s.next + 1) s.next [] w := by
  have hle : σ.le (fun b => if b = s.next then some ⟨w.heap.size, 0, 0, 0⟩ else σ b) := fun b l' hb => by
    show (if b = s.next then _ else σ b) = _
    rw [if_neg (fun h => by rw [h, hσ] at hb; cases hb)]; exact hb
  have hup : ∀ b k, upd cur s.next (s.next + 1) (s.newX x).heap [] b = some k → (b = s.next ∧ k = ⟨.lit [], 0, false, some x⟩) ∨ (b ≠ s.next ∧ cur b = some k) := by
    intro b k h
    unfold upd at h
    by_cases e : b = s.next
    · rw [if_pos (.inr (by omega)), newX_get, if_pos e] at h
      exact .inl ⟨e, (Option.some.inj h).symm⟩
    · rw [if_neg (by simp; omega)] at h
      exact .inr ⟨e, h⟩
  refine ⟨⟨fun c kc lc h1 h2 h3 => ?_, fun b1 b2 k1 k2 l1 l2 h1 h2 h3 h4 h5 h6 h7 h8 => ?_, fun c kc z lc h1 h2 h3 => ?_, fun b1 b2 k1 k2 x1 x2 l1 l2 h1 h2 h3 h4 h5 h6 h7 => ?_, fun y hy => ?_⟩, fun b hb => ?_, .of_same rfl rfl rfl (by simp) fun k hk => alloc_get hk, fun b l h1 h2 h3 => ?_⟩
  · rcases hup c kc h1 with ⟨rfl, rfl⟩ | ⟨hne, hc⟩
    · cases h2
    · simp only [if_neg hne] at h3
      obtain ⟨cs, t, ppe1, e1, qqe1, e2, e3, e4, e5⟩ := hH.cell c kc lc hc h2 h3
      exact ⟨cs, t, ppe1, by rw [alloc_get (Array.getElem?_eq_some_iff.1 e1).1]; exact e1, qqe1, e2, e3, e4, e5.mono hle⟩
  · rcases hup b1 k1 h1 with ⟨rfl, rfl⟩ | ⟨hne, hc⟩
    · cases h2
    · rcases hup b2 k2 h4 with ⟨rfl, rfl⟩ | ⟨hne', hc'⟩
      · cases h5
      · simp only [if_neg hne] at h3; simp only [if_neg hne'] at h6
        exact hH.inj b1 b2 k1 k2 l1 l2 hc h2 h3 hc' h5 h6 h7 h8
  · rcases hup c kc h1 with ⟨rfl, rfl⟩ | ⟨hne, hc⟩
    · cases h2
      rw [if_pos rfl] at h3
      obtain rfl := Option.some.inj h3
      exact hx
    · simp only [if_neg hne] at h3
      have := hH.spec c kc z lc hc h2 h3
      exact (this.heap (alloc_get this.lt)).mono hle
  · rcases hup b1 k1 h1 with ⟨rfl, rfl⟩ | ⟨hne, hc⟩ <;> rcases hup b2 k2 h4 with ⟨rfl, rfl⟩ | ⟨hne', hc'⟩
    · rfl
    · rw [if_pos rfl] at h3
      obtain rfl := Option.some.inj h3
      simp only [if_neg hne'] at h6
      have := (hH.spec b2 k2 x2 l2 hc' h5 h6).lt
      simp only at h7; omega
    · rw [if_pos rfl] at h6
      obtain rfl := Option.some.inj h6
      simp only [if_neg hne] at h3
      have := (hH.spec b1 k1 x1 l1 hc h2 h3).lt
      simp only at h7; omega
    · simp only [if_neg hne] at h3; simp only [if_neg hne'] at h6
      exact hH.injX b1 b2 k1 k2 x1 x2 l1 l2 hc h2 h3 hc' h5 h6 h7
  · obtain ⟨⟨t0, h0⟩, hd⟩ := hH.glob y hy
    have hlt := (Array.getElem?_eq_some_iff.1 h0).1
    refine ⟨⟨t0, (alloc_get hlt).trans h0⟩, fun c kc lc q1 q2 q3 q4 => ?_⟩
    rcases hup c kc q1 with ⟨rfl, rfl⟩ | ⟨hne, hc⟩
    · cases q2
    · simp only [if_neg hne] at q4
      exact hd _ _ _ hc q2 q3 q4
  · show (if b = s.next then _ else σ b) = σ b
    rw [if_neg (by omega)]
  · obtain rfl : b = s.next := by omega
    simp only [if_true] at h3
    obtain rfl := Option.some.inj h3
    exact .inl (Nat.le_refl _)
/-- An object that is neither cells nor named becomes another one. -/
theorem HR.put {ρ : Env} {σ : Mp} {cur : Cur} {w : World} {g : Nat} {o o' : Obj} (h : HR ρ σ cur w) (ho : w.heap[g]? = some o) (h1 : ∀ c t p, o ≠ .cells c t p) (h2 : ∀ r, o ≠ .loop r) (h3 : ∀ e c, o ≠ .map e c) : HR ρ σ cur (w.putObj g o') := by
  refine ⟨fun b k l a1 a2 a3 => ?_, h.inj, fun b k x l a1 a2 a3 => ?_, h.injX, fun y hy => ?_⟩
  · obtain ⟨c, t, ppe1, e1, qqe1, e2⟩ := h.cell b k l a1 a2 a3
    exact ⟨c, t, ppe1, by rw [World.putObj_heap_other (fun e => by subst e; rw [ho] at e1; cases e1; exact h1 _ _ _ rfl)]; exact e1, qqe1, e2⟩
  · have hs := h.spec b k x l a1 a2 a3
    refine hs.heap (World.putObj_heap_other (fun e => ?_))
    subst e
    cases hs with
    | loop q hq => rw [ho] at hq; cases hq; exact h2 _ rfl
    | map es hq => rw [ho] at hq; cases hq; exact h3 _ _ rfl
  · obtain ⟨⟨t0, h0⟩, hd⟩ := h.glob y hy
    exact ⟨⟨t0, (World.putObj_heap_other (fun e => by subst e; rw [ho] at h0; cases h0; exact h1 _ _ _ rfl)).trans h0⟩, hd⟩
theorem HR.alloc {ρ : Env} {σ : Mp} {cur : Cur} {w : World} (h : HR ρ σ cur w) (o : Obj) : HR ρ σ cur (w.alloc o) := by
  refine ⟨fun b k l a1 a2 a3 => ?_, h.inj, fun b k x l a1 a2 a3 => ?_, h.injX, fun y hy => ?_⟩
  · obtain ⟨c, t, ppe1, e1, qqe1, e2⟩ := h.cell b k l a1 a2 a3
    exact ⟨c, t, ppe1, by rw [alloc_get (Array.getElem?_eq_some_iff.1 e1).1]; exact e1, qqe1, e2⟩
  · have hs := h.spec b k x l a1 a2 a3
    exact hs.heap (alloc_get hs.lt)
  · obtain ⟨⟨t0, h0⟩, hd⟩ := h.glob y hy
    exact ⟨⟨t0, (alloc_get (Array.getElem?_eq_some_iff.1 h0).1).trans h0⟩, hd⟩
/-! ## Rows -/
theorem flatR_length {row : Nat → List CV} {z : Nat} (h : ∀ j, (row j).length = z) : ∀ n, (flatR row n).length = n * z
  | 0 => by simp [flatR]
  | n + 1 => by simp [flatR, flatR_length h n, h n, Nat.succ_mul]
theorem flatR_part {row : Nat → List CV} {z : Nat} (h : ∀ j, (row j).length = z) (o : Nat) : ∀ m M, o + m ≤ M → ((flatR row M).drop (o * z)).take (m * z) = flatR (fun i => row (o + i)) m
  | m, 0, hle => by
    obtain rfl : m = 0 := by omega
    simp [flatR]
  | m, M + 1, hle => by
    have hl := flatR_length h M
    by_cases hM : o + m ≤ M
    · have e : o * z + m * z ≤ M * z := by rw [← Nat.add_mul]; exact Nat.mul_le_mul_right _ hM
      rw [flatR, List.drop_append_of_le_length (by omega), List.take_append_of_le_length (by simp; omega)]
      exact flatR_part h o m M hM
    · cases m with
      | zero => simp [flatR]
      | succ m =>
        obtain rfl : M = o + m := by omega
        have e : o * z ≤ (o + m) * z := Nat.mul_le_mul_right _ (by omega)
        rw [flatR, List.drop_append_of_le_length (by omega), List.take_append, flatR, ← flatR_part h o m (o + m) (Nat.le_refl _)]
        have h1 : ((flatR row (o + m)).drop (o * z)).length = m * z := by simp [hl, Nat.add_mul]
        rw [h1, Nat.succ_mul, Nat.add_sub_cancel_left, List.take_of_length_le (by omega), List.take_of_length_le (l := List.drop _ _) (by omega), List.take_of_length_le (by rw [h]; omega)]
theorem flatR_row {row : Nat → List CV} {z : Nat} (h : ∀ j, (row j).length = z) {j m f n : Nat} (hj : j < m) (hf : f + n ≤ z) : ((flatR row m).drop (j * z + f)).take n = ((row j).drop f).take n := by
  have e := flatR_part h j 1 m (by omega)
  simp only [flatR, List.nil_append, Nat.one_mul, Nat.add_zero] at e
  rw [← e, ← List.drop_drop]
  apply List.ext_getElem?
  intro i
  by_cases hi : i < n
  · rw [List.getElem?_take_of_lt hi, List.getElem?_take_of_lt hi, List.getElem?_drop, List.getElem?_drop, List.getElem?_drop, List.getElem?_take_of_lt (by omega), List.getElem?_drop]
  · rw [List.getElem?_eq_none (by simp; omega), List.getElem?_eq_none (by simp; omega)]
theorem must_parts {ρ : Env} {s s1 : St} {b : Bool} (h : s.must (.x b) = some s1) : s1.next = s.next ∧ s1.heap = s.heap ∧ (∃ l, s1.pc = l ++ s.pc) ∧ ((∀ p ∈ s1.pc, p.holds ρ) → b = true) := by
  simp only [St.must] at h
  cases h
  exact ⟨rfl, rfl, ⟨[_], rfl⟩, fun hp => hp (.b (.x b) true) (by simp)⟩
theorem musts_parts {ρ : Env} : ∀ {l : List Bool} {s s1 : St}, s.musts l = some s1 → s1.next = s.next ∧ s1.heap = s.heap ∧ (∃ l, s1.pc = l ++ s.pc) ∧ ((∀ p ∈ s1.pc, p.holds ρ) → ∀ b ∈ l, b = true)
  | [], s, s1, h => by simp only [St.musts] at h; cases h; exact ⟨rfl, rfl, ⟨[], rfl⟩, fun _ b hb => by cases hb⟩
  | b :: l, s, s1, h => by
    simp only [St.musts] at h
    split at h
    · rename_i s2 h2
      obtain ⟨a1, a2, ⟨m, a3⟩, a4⟩ := must_parts (ρ := ρ) h2
      obtain ⟨c1, c2, ⟨m', c3⟩, c4⟩ := musts_parts (ρ := ρ) h
      refine ⟨c1.trans a1, c2.trans a2, ⟨m' ++ m, by rw [c3, a3, List.append_assoc]⟩, fun hp x hx => ?_⟩
      rcases List.mem_cons.1 hx with rfl | hx
      · exact a4 fun p hp' => hp p (by rw [c3]; simp [hp'])
      · exact c4 hp x hx
    · cases h
theorem ldx_parts {ρ : Env} {s s1 : St} {b z j f n : Nat} {cs : List CV} (h : s.ldx b z j f n = some (cs, s1)) : s1.next = s.next ∧ s1.heap = s.heap ∧ (∃ l, s1.pc = l ++ s.pc) ∧ b < s.next ∧ ((∀ p ∈ s1.pc, p.holds ρ) → s.ld b (j * z + f) n = some cs) := by
  unfold St.ldx at h
  split at h
  · rename_i m z' row hr e x hk
    cases hc : (Nat.beq z z' && Nat.ble (f + n) z && Nat.blt b s.next) with
    | false => rw [hc, cond_false] at h; cases h
    | true =>
      rw [hc, cond_true] at h
      simp only [Bool.and_eq_true] at hc
      obtain rfl := Nat.eq_of_beq_eq_true hc.1.1
      have hf := Nat.le_of_ble_eq_true hc.1.2
      have hb := Nat.lt_of_succ_le (Nat.le_of_ble_eq_true hc.2)
      split at h
      · rename_i s2 h2
        cases h
        obtain ⟨a1, a2, a3, a4⟩ := must_parts (ρ := ρ) h2
        refine ⟨a1, a2, a3, hb, fun hp => ?_⟩
        have hj : j < m := of_decide_eq_true (a4 hp)
        have hlen := flatR_length (fun j => (hr j).1) m
        have hle : j * z + f + n ≤ m * z := by
          have : (j + 1) * z ≤ m * z := Nat.mul_le_mul_right _ hj
          rw [Nat.succ_mul] at this; omega
        unfold St.ld
        rw [hk]
        have hcl : Blk.cells ⟨.rows m z row hr, e, true, x⟩ = flatR row m := rfl
        simp only [hcl, hlen]
        have e1 : Nat.ble (j * z + f + n) (m * z) = true := Nat.ble_eq_true_of_le hle
        rw [e1, hc.2, flatR_row (fun j => (hr j).1) hj hf]
        rfl
      · cases h
  · rename_i m z' row hr e x hk
    cases hc : (Nat.beq z z' && Nat.ble (f + n) z && Nat.blt b s.next) with
    | false => rw [hc, cond_false] at h; cases h
    | true =>
      rw [hc, cond_true] at h
      simp only [Bool.and_eq_true] at hc
      obtain rfl := Nat.eq_of_beq_eq_true hc.1.1
      have hf := Nat.le_of_ble_eq_true hc.1.2
      have hb := Nat.lt_of_succ_le (Nat.le_of_ble_eq_true hc.2)
      split at h
      · rename_i s2 h2
        cases h
        obtain ⟨a1, a2, a3, a4⟩ := must_parts (ρ := ρ) h2
        refine ⟨a1, a2, a3, hb, fun hp => ?_⟩
        have hj : j < m := of_decide_eq_true (a4 hp)
        have hlen := flatR_length (fun j => (hr j).1) m
        have hle : j * z + f + n ≤ m * z := by
          have : (j + 1) * z ≤ m * z := Nat.mul_le_mul_right _ hj
          rw [Nat.succ_mul] at this; omega
        unfold St.ld
        rw [hk]
        have hcl : Blk.cells ⟨.arg m z row hr, e, true, x⟩ = flatR row m := rfl
        simp only [hcl, hlen]
        have e1 : Nat.ble (j * z + f + n) (m * z) = true := Nat.ble_eq_true_of_le hle
        rw [e1, hc.2, flatR_row (fun j => (hr j).1) hj hf]
        rfl
      · cases h
  · cases h
end Go.Proofs.Ytjdldcmcjaaibaa.Cx

/- Types, constants, operands, and the filling of structs and rows, in canonical memory and in the real one. -/
namespace Go.Proofs.Ytjdldcmcjaaibaa.Cx
set_option linter.unusedSimpArgs false
set_option linter.unusedVariables false
open Go Go.RowKit
mutual
theorem VR.ofVal {ρ : Env} {σ : Mp} : ∀ {v : Value} {c : CV}, CV.ofVal v = some c → VR ρ σ c v := by
  intro v c h
  cases v with
  | bool b => simp only [CV.ofVal] at h; cases h; exact .bool (.c b)
  | int k n => simp only [CV.ofVal] at h; cases h; exact .int k (.c n)
  | string s => simp only [CV.ofVal] at h; cases h; exact .raw _
  | float k b => simp only [CV.ofVal] at h; cases h; exact .raw _
  | pointer a => cases a <;> simp only [CV.ofVal] at h <;> cases h; exact .ptr0
  | slice a n m =>
    cases a with
    | some a => simp [CV.ofVal] at h
    | none =>
      cases n with
      | succ n => simp [CV.ofVal] at h
      | zero => cases m with
        | succ m => simp [CV.ofVal] at h
        | zero => simp only [CV.ofVal] at h; cases h; exact .slc0
  | map r => cases r <;> simp only [CV.ofVal] at h <;> cases h; exact .raw _
  | nilFunc => simp only [CV.ofVal] at h; cases h; exact .raw _
  | nilIface => simp only [CV.ofVal] at h; cases h; exact .raw _
  | agg cs =>
    simp only [CV.ofVal] at h
    split at h
    · rename_i l hl; cases h; exact .agg (VRl.ofVals hl)
    · cases h
  | tuple cs =>
    simp only [CV.ofVal] at h
    split at h
    · rename_i l hl; cases h; exact .tup (VRl.ofVals hl)
    · cases h
  | complex => simp [CV.ofVal] at h
  | chan => simp [CV.ofVal] at h
  | func => simp [CV.ofVal] at h
  | iface => simp [CV.ofVal] at h
theorem VRl.ofVals {ρ : Env} {σ : Mp} : ∀ {l : List Value} {m : List CV}, CV.ofVals l = some m → VRl ρ σ m l := by
  intro l m h
  cases l with
  | nil => simp only [CV.ofVals] at h; cases h; exact .nil
  | cons v l =>
    simp only [CV.ofVals] at h
    split at h
    · rename_i c m' h1 h2; cases h; exact .cons (VR.ofVal h1) (VRl.ofVals h2)
    · cases h
end
def aggD : TypeDesc → Bool
  | .struct _ | .array _ _ => true
  | _ => false
/-- What is known of a type is true. -/
def TyOk (P : Program) (t : Nat) (r : TyR) : Prop :=
  P.underlying t = some r.desc ∧ r.agg = aggD r.desc ∧ r.zero.length = r.size ∧ ∃ i z, P.info? t = some i ∧ i.size = r.size ∧ i.bytes = r.bytes ∧ i.zero = some z ∧ CV.ofVals z.cells.toList = some r.zero
theorem tyOf_ok {P : Program} {t : Nat} {r : TyR} (h : tyOf P t = some r) : TyOk P t r := by
  unfold tyOf at h
  split at h
  · rename_i d i hd hi
    split at h
    · rename_i z hz
      split at h
      · rename_i l hl
        by_cases hc : Nat.beq l.length i.size = true
        · rw [hc, cond_true] at h
          cases h
          exact ⟨hd, by cases d <;> rfl, Nat.eq_of_beq_eq_true hc, i, z, hi, rfl, rfl, hz, hl⟩
        · rw [Bool.not_eq_true] at hc; rw [hc, cond_false] at h; cases h
      · cases h
    · cases h
  · cases h
section
variable {P : Program} {t : Nat} {r : TyR} (h : TyOk P t r) (w : World)
include h
theorem TyOk.under : (underlying t).run P w = .ok r.desc w := run_underlying h.1 w
theorem TyOk.info : ∃ i, (typeInfo t).run P w = .ok i w ∧ i.size = r.size ∧ i.bytes = r.bytes := by
  obtain ⟨_, _, _, i, z, hi, h1, h2, _⟩ := h
  exact ⟨i, by simp [typeInfo, hi], h1, h2⟩
theorem TyOk.sizeOf' : (sizeOf t).run P w = .ok r.size w := by
  obtain ⟨i, h1, h2, _⟩ := h.info w
  simp [Go.sizeOf, h1, h2]
theorem TyOk.isAgg' : (isAgg t).run P w = .ok r.agg w := by
  have h1 := h.under w
  rw [h.2.1]
  cases hd : r.desc <;> simp [isAgg, h1, hd, aggD]
theorem TyOk.zeroA : ∃ z, (∀ w, (zeroValue t).run P w = .ok z w) ∧ CV.ofVals z.cells.toList = some r.zero := by
  obtain ⟨_, _, _, i, z, hi, h1, h2, h3, h4⟩ := h
  exact ⟨z, fun w => by simp [zeroValue, typeInfo, hi, h3], h4⟩
theorem TyOk.zeroV : ∃ z, (zeroValue t).run P w = .ok z w ∧ CV.ofVals z.cells.toList = some r.zero := by
  obtain ⟨_, _, _, i, z, hi, h1, h2, h3, h4⟩ := h
  exact ⟨z, by simp [zeroValue, typeInfo, hi, h3], h4⟩
end
/-- The temporaries of a frame. -/
def FR (ρ : Env) (σ : Mp) (T : Tr CV) (a : Act) : Prop := ∀ t, VR ρ σ (rd T t) (a.tmps.getD t undef)
theorem VR.undef (ρ : Env) (σ : Mp) : VR ρ σ undefC Go.undef := .tup .nil
theorem ev_run {ρ : Env} {σ : Mp} {T : Tr CV} {a : Act} {x : Operand} {c : CV} (hT : ∀ t, x = .tmp t → VR ρ σ (rd T t) (a.tmps.getD t Go.undef)) (h : ev T x = some c) : VR ρ σ c (a.eval x) := by
  cases x with
  | tmp t => simp only [ev] at h; cases h; exact hT t rfl
  | const v => exact VR.ofVal h
  | global g => simp [ev] at h
  | func f => simp only [ev] at h; cases h; exact .fn _ .nil .nil
/-- What an operation reads of the temporaries. -/
def Reads (ρ : Env) (σ : Mp) (T : Tr CV) (a : Act) (l : List Operand) : Prop := ∀ t, Operand.tmp t ∈ l → VR ρ σ (rd T t) (a.tmps.getD t Go.undef)
theorem Reads.ev {ρ : Env} {σ : Mp} {T : Tr CV} {a : Act} {l : List Operand} (hT : Reads ρ σ T a l) {x : Operand} (hx : x ∈ l) {c : CV} (h : ev T x = some c) : VR ρ σ c (a.eval x) :=
  ev_run (fun t e => hT t (e ▸ hx)) h
theorem evs_run {ρ : Env} {σ : Mp} {T : Tr CV} {a : Act} : ∀ {l : List Operand} {cs : List CV}, Reads ρ σ T a l → evs T l = some cs → VRl ρ σ cs (l.map a.eval)
  | [], cs, _, h => by simp only [evs] at h; cases h; exact .nil
  | x :: l, cs, hT, h => by
    simp only [evs] at h
    split at h
    · rename_i c m h1 h2
      cases h
      exact .cons (hT.ev (by simp) h1) (evs_run (fun t ht => hT t (by simp [ht])) h2)
    · cases h
/-- Numbered parts. -/
inductive PRl (ρ : Env) (σ : Mp) : List (Nat × CV) → List (Nat × Value) → Prop
  | nil : PRl ρ σ [] []
  | cons {i : Nat} {c : CV} {v : Value} {l : List (Nat × CV)} {m : List (Nat × Value)} (h : VR ρ σ c v) (t : PRl ρ σ l m) : PRl ρ σ ((i, c) :: l) ((i, v) :: m)
theorem evps_run {ρ : Env} {σ : Mp} {T : Tr CV} {a : Act} : ∀ {l : List (Nat × Operand)} {cs : List (Nat × CV)}, Reads ρ σ T a (l.map (·.2)) → evps T l = some cs → PRl ρ σ cs (l.map fun p => (p.1, a.eval p.2))
  | [], cs, _, h => by simp only [evps] at h; cases h; exact .nil
  | (i, x) :: l, cs, hT, h => by
    simp only [evps] at h
    split at h
    · rename_i c m h1 h2
      cases h
      exact .cons (hT.ev (by simp) h1) (evps_run (fun t ht => hT t (by simp only [List.map_cons, List.mem_cons]; exact .inr ht)) h2)
    · cases h
theorem fit_raw {c : CV} (h : c.fit = true) : (∀ w, c = .raw w → w.oneCell' = true) ∧ c ≠ .any :=
  ⟨by rintro w rfl; exact h, by rintro rfl; cases h⟩
/-! ## Filling -/
theorem seg_get (off : Nat) : ∀ (l : List Value) (j : Nat) (cs : Array Value) (i : Nat), off + j + l.length ≤ cs.size →
    ((l.zipIdx j).foldl (fun (cs : Array Value) (p : Value × Nat) => cs.setIfInBounds (off + p.2) p.1) cs)[i]? = if off + j ≤ i ∧ i < off + j + l.length then l[i - (off + j)]? else cs[i]?
  | [], j, cs, i, h => by simp; omega
  | v :: l, j, cs, i, h => by
    simp only [List.zipIdx_cons, List.foldl_cons]
    simp only [List.length_cons] at h
    rw [seg_get off l (j + 1) _ i (by simp; omega), Array.getElem?_setIfInBounds]
    simp only [List.length_cons]
    by_cases h2 : off + j = i
    · subst h2
      rw [if_neg (by omega), if_pos rfl, if_pos (by omega), if_pos (by omega)]
      simp
    · by_cases h3 : off + j ≤ i ∧ i < off + j + (l.length + 1)
      · rw [if_pos (by omega), if_pos h3, show i - (off + j) = (i - (off + (j + 1))) + 1 by omega, List.getElem?_cons_succ]
      · rw [if_neg (by omega), if_neg h3, if_neg h2]
theorem seg_foldl (off : Nat) (l : List Value) (cs : Array Value) (h : off + l.length ≤ cs.size) :
    (l.zipIdx.foldl (fun (cs : Array Value) (p : Value × Nat) => cs.setIfInBounds (off + p.2) p.1) cs).toList = cs.toList.take off ++ l ++ cs.toList.drop (off + l.length) := by
  apply List.ext_getElem?
  intro i
  rw [Array.getElem?_toList, seg_get off l 0 cs i (by omega), Nat.add_zero]
  by_cases h1 : i < off
  · rw [if_neg (by omega), List.append_assoc, List.getElem?_append_left (by simp; omega), List.getElem?_take_of_lt h1, Array.getElem?_toList]
  · by_cases h2 : i < off + l.length
    · rw [if_pos ⟨by omega, h2⟩, List.getElem?_append_left (by simp; omega), List.getElem?_append_right (by simp; omega)]
      congr 1; simp; omega
    · rw [if_neg (by omega), List.getElem?_append_right (by simp; omega), List.getElem?_drop, Array.getElem?_toList]
      congr 1; simp; omega
theorem fill_seg (off : Nat) (v cells : Array Value) (h : off + v.size ≤ cells.size) : (v.zipIdx.foldl (fun cs (c, j) => cs.setIfInBounds (off + j) c) cells).toList = cells.toList.take off ++ v.toList ++ cells.toList.drop (off + v.size) := by
  have := seg_foldl off v.toList cells (by simpa using h)
  simp only [Array.length_toList] at this
  rw [← this, ← Array.foldl_toList, Array.toList_zipIdx]
theorem fill_run {ρ : Env} {σ : Mp} (pl : Nat → Option (Nat × Nat)) : ∀ {ps : List (Nat × CV)} {qs : List (Nat × Value)} {cells : List CV} {cs : Array Value} {l : List CV}, PRl ρ σ ps qs → VRl ρ σ cells cs.toList → fillC pl cells ps = some l →
    ∃ cs', Instr.fill pl cs qs = some cs' ∧ VRl ρ σ l cs'.toList
  | _, _, cells, cs, l, .nil, hc, h => by simp only [fillC] at h; cases h; exact ⟨cs, rfl, hc⟩
  | _, _, cells, cs, l, .cons (i := i) (c := c) (v := v) hv ht, hc, h => by
    simp only [fillC] at h
    split at h
    · cases h
    · rename_i off size hp
      by_cases hb : (Nat.beq c.cells.length size && Nat.ble (off + size) cells.length && c.fit) = true
      · rw [hb, cond_true] at h
        simp only [Bool.and_eq_true] at hb
        have h1 := Nat.eq_of_beq_eq_true hb.1.1
        have h2 := Nat.le_of_ble_eq_true hb.1.2
        have hvc := hv.cells (fit_raw hb.2)
        have hl1 := hvc.length
        have hl2 := hc.length
        simp only [Array.length_toList] at hl1 hl2
        have hseg := fill_seg off v.cells cs (by omega)
        obtain ⟨cs', h3, h4⟩ := fill_run pl (cs := v.cells.zipIdx.foldl (fun cs (c, j) => cs.setIfInBounds (off + j) c) cs) ht (by
          rw [hseg, show off + v.cells.size = off + size by omega]
          exact ((hc.take off).append hvc).append (hc.drop (off + size))) h
        refine ⟨cs', ?_, h4⟩
        simp only [Instr.fill, hp]
        have e : (v.cells.size ≠ size || decide (off + v.cells.size > cs.size)) = false := by simp; omega
        rw [if_neg (by simp; omega)]
        exact h3
      · rw [Bool.not_eq_true] at hb; rw [hb, cond_false] at h; cases h
theorem fillC_length {pl : Nat → Option (Nat × Nat)} : ∀ {ps : List (Nat × CV)} {cells l : List CV}, fillC pl cells ps = some l → l.length = cells.length
  | [], cells, l, h => by simp only [fillC] at h; cases h; rfl
  | (i, c) :: ps, cells, l, h => by
    simp only [fillC] at h
    split at h
    · cases h
    · rename_i off size hp
      cases hb : (Nat.beq c.cells.length size && Nat.ble (off + size) cells.length && c.fit) with
      | false => rw [hb, cond_false] at h; cases h
      | true =>
        rw [hb, cond_true] at h
        simp only [Bool.and_eq_true] at hb
        have h1 := Nat.eq_of_beq_eq_true hb.1.1
        have h2 := Nat.le_of_ble_eq_true hb.1.2
        rw [fillC_length h]
        simp only [List.length_append, List.length_take, List.length_drop]; omega
theorem rep_length (l : List CV) : ∀ n, (rep n l).length = n * l.length
  | 0 => by simp [rep]
  | n + 1 => by simp [rep, rep_length l n, Nat.succ_mul, Nat.add_comm]
theorem rep_get (l : List CV) : ∀ (n i : Nat), i < n * l.length → (rep n l)[i]? = l[i % l.length]?
  | 0, i, h => by omega
  | n + 1, i, h => by
    simp only [rep]
    by_cases hi : i < l.length
    · rw [List.getElem?_append_left hi, Nat.mod_eq_of_lt hi]
    · rw [List.getElem?_append_right (by omega), rep_get l n (i - l.length) (by rw [Nat.succ_mul] at h; omega)]
      exact congrArg (fun k => l[k]?) (Nat.mod_eq_sub_mod (by omega)).symm
theorem rep_rel {ρ : Env} {σ : Mp} {l : List CV} {z : Array Value} (h : VRl ρ σ l z.toList) (n : Nat) (hz : 1 ≤ l.length) : VRl ρ σ (rep n l) (((Array.range (n * l.length)).map (z[· % z.size]!)).toList) := by
  have hl := h.length
  simp only [Array.length_toList] at hl
  refine VRl.mk (by simp [rep_length]) fun i c hc => ?_
  have hi : i < n * l.length := by rw [← rep_length]; exact (List.getElem?_eq_some_iff.1 hc).1
  rw [rep_get l n i hi] at hc
  obtain ⟨v, hv1, hv2⟩ := h.get hc
  refine ⟨v, ?_, hv2⟩
  simp only [Array.toList_map, Array.toList_range, List.getElem?_map, List.getElem?_range hi, Option.map_some]
  rw [← hl] at hv1
  have : i % z.size < z.size := Nat.mod_lt _ (by omega)
  rw [getElem!_pos z (i % z.size) this]
  rw [Array.getElem?_toList, Array.getElem?_eq_getElem this] at hv1
  exact hv1
theorem places_run {P : Program} {C : Ctx} (hC : ∀ t r, C.ty t = some r → TyOk P t r) (w : World) : ∀ {fs : List Field} {pl : List (Nat × Nat)}, placesC C fs = some pl →
    (fs.mapM (m := Sem) fun f => do pure (f.offset, ← sizeOf f.type)).run P w = .ok pl w
  | [], pl, h => by simp only [placesC] at h; cases h; rfl
  | f :: fs, pl, h => by
    simp only [placesC] at h
    split at h
    · rename_i q m h1 h2
      cases h
      have ih := places_run hC w h2
      simp only [List.mapM_cons, bind_assoc, pure_bind, Sem.run_bind, (hC _ _ h1).sizeOf' w, Result.andThen, ih, Sem.run_pure]
    · cases h
end Go.Proofs.Ytjdldcmcjaaibaa.Cx
