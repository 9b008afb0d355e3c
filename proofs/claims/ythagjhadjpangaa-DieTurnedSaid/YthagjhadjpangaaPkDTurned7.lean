/- acme/acmeref07.Judge as an automaton. Made by tools/cxauto.py. -/
import Derived.Test.YthagjhadjpangaaPkDTurned6

namespace Go.Proofs.Ythagjhadjpangaa.Cx
set_option linter.unusedVariables false
set_option linter.unusedSimpArgs false
set_option maxRecDepth 100000
open Go Go.Proofs Go.RowKit
abbrev rdjR := Int
instance : Inhabited rdjR := ⟨0⟩
end Go.Proofs.Ythagjhadjpangaa.Cx

/- Package die: Judge, the program's and the reference's. -/
namespace Go.Proofs.Ythagjhadjpangaa.Cx
set_option linter.unusedVariables false
set_option linter.unusedSimpArgs false
set_option maxRecDepth 100000
set_option maxHeartbeats 4000000
open Go Go.RowKit
section
variable {a0 : Bool} {a1 a2 a3 a4 : Int} {a5 : Nat} {a6 a7 : Nat → Int} {a8 : Nat} {a9 a10 a11 a12 : Nat → Int} {a13 : Nat} {a14 a15 : Nat → Int}
end
end Go.Proofs.Ythagjhadjpangaa.Cx

/- Package die: what chains of settings that go as far as they can make sure. -/
namespace Go.Proofs.Ythagjhadjpangaa.Cx
set_option linter.unusedVariables false
set_option linter.unusedSimpArgs false
set_option maxRecDepth 100000
set_option maxHeartbeats 4000000
open Go Go.RowKit
section
variable {b : Bool} {s1 s2 c1 c2 : Int} {n : Nat} {w1 w2 : Nat → Int} {m : Nat} {pc st zl zh : Nat → Int} {f : Int} {j k : Nat} {F G : Nat → Int}
theorem JobOk.first (h : JobOk s1 s2 c1 c2 n w1 w2 m pc st zl zh) (h0 : 0 ≤ f) (h1 : f < PS pc m) : -2000000 ≤ tlP b s1 c1 w1 w2 st pc zl m f 0 ∧ thP b s2 c2 w1 w2 st pc zh m f 0 ≤ 10002000000 := by
  have t := (h.at' (x := f) h0 h1).2.2.1
  obtain ⟨_, _, q1, q2⟩ := h.tool
  unfold VOk at q1 q2
  unfold tlP thP gL gH
  simp only [WSum]
  rw [show f + ((0 : Nat) : Int) = f by omega]
  cases b <;> simp only [cond_true, cond_false] <;> omega
theorem JobOk.lobd (h : JobOk s1 s2 c1 c2 n w1 w2 m pc st zl zh) (h0 : 0 ≤ f) (hk : 0 < k) (h1 : f + k ≤ PS pc m) : (-2000000 ≤ (loJ b s1 c1 w1 w2 m pc st zl) f k ∧ (loJ b s1 c1 w1 w2 m pc st zl) f k ≤ 100000000000) ∧ (-100000000000 ≤ (hiJ b s2 c2 w1 w2 m pc st zh) f k ∧ (hiJ b s2 c2 w1 w2 m pc st zh) f k ≤ 10002000000) := by
  have a := h.first (b := b) h0 (by omega)
  have e1 := ((LoM_le (t := -1152921504606846976) (tl := tlP b s1 c1 w1 w2 st pc zl m f) k).1 (Int.le_refl _)).2 0 hk
  have e2 := ((HiM_ge (t := 1152921504606846976) (th := thP b s2 c2 w1 w2 st pc zh m f) k).1 (Int.le_refl _)).2 0 hk
  have b1 := (LoM_le (t := -1152921504606846976) (x := 100000000000) (tl := tlP b s1 c1 w1 w2 st pc zl m f) k).2 ⟨by omega, fun j hj => (h.tbd (a0 := b) (j := j) h0 (by omega)).1.2⟩
  have b2 := (HiM_ge (t := 1152921504606846976) (x := -100000000000) (th := thP b s2 c2 w1 w2 st pc zh m f) k).2 ⟨by omega, fun j hj => (h.tbd (a0 := b) (j := j) h0 (by omega)).2.1⟩
  unfold loJ hiJ
  omega
end
end Go.Proofs.Ythagjhadjpangaa.Cx

/- acme/die.Most as an automaton. Made by tools/cxauto.py. -/
namespace Go.Proofs.Ythagjhadjpangaa.Cx
set_option linter.unusedVariables false
set_option linter.unusedSimpArgs false
set_option maxRecDepth 100000
open Go Go.Proofs Go.RowKit
abbrev dmoR := Int × Int
instance : Inhabited dmoR := ⟨(0, 0)⟩
end Go.Proofs.Ythagjhadjpangaa.Cx

/- acme/acmeref07.Fewest as an automaton. Made by tools/cxauto.py. -/
namespace Go.Proofs.Ythagjhadjpangaa.Cx
set_option linter.unusedVariables false
set_option linter.unusedSimpArgs false
set_option maxRecDepth 100000
open Go Go.Proofs Go.RowKit
noncomputable abbrev rdfCode : Code := funcCode Try.f74
inductive rdfN where
  | n0 (p0 : Nat) (p1 : Int) (p2 : Nat → Int)
  | n1 (p0 p1 : Nat) (p2 p3 p4 : Int) (p5 : Nat) (p6 : Nat → Int)
abbrev rdfR := Nat × (Nat → Int)
noncomputable def rdfD0 (a0 : Bool) (a1 a2 a3 a4 : Int) (a5 : Nat) (a6 a7 : Nat → Int) (a8 : Nat) (a9 a10 a11 a12 : Nat → Int) : DD (Lf rdfN rdfR) :=
 .leaf (.next (.n0 1 1 (fun i => 0)) [2, 3])

noncomputable def rdfD (a0 : Bool) (a1 a2 a3 a4 : Int) (a5 : Nat) (a6 a7 : Nat → Int) (a8 : Nat) (a9 a10 a11 a12 : Nat → Int) : rdfN → DD (Lf rdfN rdfR)
 | .n0 p0 p1 p2 =>
 let z0 := fun i => [CV.int IntKind.i64 (IE.x (a9 (0 + i))), CV.int IntKind.i64 (IE.x (a10 (0 + i))), CV.int IntKind.i64 (IE.x (a11 (0 + i))), CV.int IntKind.i64 (IE.x (a12 (0 + i)))]
 let z1 := rdaA a8 (fun i => a9 (0 + i)) (fun i => a10 (0 + i)) (fun i => a11 (0 + i)) (fun i => a12 (0 + i))
 .must (decide (0 + a8 ≤ a8))
   (.must (ShapeOk [some IntKind.i64, some IntKind.i64, some IntKind.i64, some IntKind.i64] (tabOf a8 z0) z0)
   (.must (AF.fin z1)
   (.ask (Cm.run .leq p1 (AF.val z1))
   (.leaf (.next (.n1 p0 p0 p1 1000000 (Ar.run .sub .i64 p1 1) p0 (fun i => p2 i)) [2, 3]))
   (.leaf (.done (p0, (fun i => p2 i)) [3])))))
 | .n1 p0 p1 p2 p3 p4 p5 p6 =>
 let z0 := decide (0 ≤ p4)
 let z1 := decide (0 + Int.toNat p4 < p5)
 let z2 := p6 (0 + Int.toNat p4)
 let z3 := fun i => [CV.int IntKind.i64 (IE.x (a6 (0 + i))), CV.int IntKind.i64 (IE.x (a7 (0 + i)))]
 let z4 := fun i => [CV.int IntKind.i64 (IE.x (a9 (0 + i))), CV.int IntKind.i64 (IE.x (a10 (0 + i))), CV.int IntKind.i64 (IE.x (a11 (0 + i))), CV.int IntKind.i64 (IE.x (a12 (0 + i)))]
 let z5 := rdtA a0 a1 a2 a3 a4 a5 (fun i => a6 (0 + i)) (fun i => a7 (0 + i)) a8 (fun i => a9 (0 + i)) (fun i => a10 (0 + i)) (fun i => a11 (0 + i)) (fun i => a12 (0 + i)) p4 p2
 let z6 := AF.val z5
 let z7 := Ar.run .sub .i64 p4 1
 .ask (Cm.run .geq p4 0)
   (.must z0
   (.must (decide (p4 < (↑p0 : Int)))
   (.must z1
   (.ask (Cm.run .lss z2 1000000)
   (.must (decide (0 + a5 ≤ a5))
   (.must (ShapeOk [some IntKind.i64, some IntKind.i64] (tabOf a5 z3) z3)
   (.must (decide (0 + a8 ≤ a8))
   (.must (ShapeOk [some IntKind.i64, some IntKind.i64, some IntKind.i64, some IntKind.i64] (tabOf a8 z4) z4)
   (.must (AF.fin z5)
   (.ask (Cm.run .leq (Prod.fst z6) (Prod.snd z6))
   (.must z0
   (.must (decide (p4 < (↑p0 : Int)))
   (.must z1
   (.leaf (.next (.n1 p0 p1 p2 (Ar.run .mn .i64 p3 (Ar.run .add .i64 z2 1)) z7 p5 (fun i => p6 i)) [2, 3])))))
   (.leaf (.next (.n1 p0 p1 p2 p3 z7 p5 (fun i => p6 i)) [2, 3]))))))))
   (.leaf (.next (.n1 p0 p1 p2 p3 z7 p5 (fun i => p6 i)) [2, 3]))))))
   (.must (decide (0 + p0 ≤ p5))
   (.must (decide (p0 + 1 ≤ 10000))
   (.leaf (.next (.n0 (p0 + 1) (Ar.run .add .i64 p2 1) (fun i => bif Nat.blt i p0 then p6 (0 + i) else p3)) [2, 5]))))

noncomputable def rdfA (a0 : Bool) (a1 a2 a3 a4 : Int) (a5 : Nat) (a6 a7 : Nat → Int) (a8 : Nat) (a9 a10 a11 a12 : Nat → Int) : AF rdfN rdfR where
  code := rdfCode
  base := 2
  nt := 46
  m := 400
  un := []
  W := []
  h0 := [(0, ⟨.arg a5 2 (fun i => [.int .i64 (.x (a6 i)), .int .i64 (.x (a7 i))]) (fun _ => ⟨rfl, rfl⟩), 2, true, none⟩), (1, ⟨.arg a8 4 (fun i => [.int .i64 (.x (a9 i)), .int .i64 (.x (a10 i)), .int .i64 (.x (a11 i)), .int .i64 (.x (a12 i))]) (fun _ => ⟨rfl, rfl⟩), 4, true, none⟩)]
  args := [.agg [.bool (.x a0), .int .i64 (.x a1), .int .i64 (.x a2), .int .i64 (.x a3), .int .i64 (.x a4), .sla 0 2 0 a5], .sla 1 4 0 a8]
  res := (Try.f74).results.toList
  path := fun a => match a with
   | .n0 p0 p1 p2 => [1, 1, 0, 1, 0]
   | .n1 p0 p1 p2 p3 p4 p5 p6 => [1, 1, 0, 1, 0, 0, 1, 0, 0, 1, 0, 1, 0]
  pd := fun a => match a with
   | .n0 p0 p1 p2 => ⟨[(1, .sla 1 4 0 a8), (2, .ptr (some (2, 0))), (5, .slx 3 1 0 p0 p0), (6, .int .i64 (.x p1))], [(2, ⟨.lit [.bool (.x a0), .int .i64 (.x a1), .int .i64 (.x a2), .int .i64 (.x a3), .int .i64 (.x a4), .sla 0 2 0 a5], 0, true, none⟩), (3, ⟨.rows p0 1 (fun i => [.int .i64 (.x (p2 i))]) (fun _ => ⟨rfl, rfl⟩), 1, true, none⟩)], 4, []⟩
   | .n1 p0 p1 p2 p3 p4 p5 p6 => ⟨[(1, .sla 1 4 0 a8), (2, .ptr (some (2, 0))), (5, .slx 3 1 0 p0 p1), (6, .int .i64 (.x p2)), (7, .int .i64 (.x p3)), (8, .int .i64 (.x p4))], [(2, ⟨.lit [.bool (.x a0), .int .i64 (.x a1), .int .i64 (.x a2), .int .i64 (.x a3), .int .i64 (.x a4), .sla 0 2 0 a5], 0, true, none⟩), (3, ⟨.rows p5 1 (fun i => [.int .i64 (.x (p6 i))]) (fun _ => ⟨rfl, rfl⟩), 1, true, none⟩)], 4, []⟩
  D0 := rdfD0 a0 a1 a2 a3 a4 a5 a6 a7 a8 a9 a10 a11 a12
  D := rdfD a0 a1 a2 a3 a4 a5 a6 a7 a8 a9 a10 a11 a12
  rc := (fun v => .slx 2 1 0 v.1 v.1)
  rh := (fun v => [(2, ⟨.rows v.1 1 (fun i => [.int .i64 (.x (v.2 i))]) (fun _ => ⟨rfl, rfl⟩), 1, true, none⟩)])
  rn := (fun v => 3)
  rx := (fun v => [])
  rgo := (fun _ => none)
instance : Inhabited rdfR := ⟨(0, fun _ => 0)⟩
end Go.Proofs.Ythagjhadjpangaa.Cx

/- acme/acmeref07.Most as an automaton. Made by tools/cxauto.py. -/
namespace Go.Proofs.Ythagjhadjpangaa.Cx
set_option linter.unusedVariables false
set_option linter.unusedSimpArgs false
set_option maxRecDepth 100000
open Go Go.Proofs Go.RowKit
abbrev rdmR := Int
instance : Inhabited rdmR := ⟨0⟩
end Go.Proofs.Ythagjhadjpangaa.Cx

/- A CALL THAT IS KNOWN BY A RUN OF ITS OWN: the evaluator runs it once, in a small memory that holds its arguments' blocks; wherever the same arguments come up, with blocks that hold the same, it yields the same. So a long run is many short ones, each a theorem of its own. -/
namespace Go.Proofs.Ythagjhadjpangaa.Cx
set_option linter.unusedSimpArgs false
set_option linter.unusedVariables false
open Go Go.RowKit
mutual
/-- The same value, where block b is called β b. -/
def CV.eqv (β : Nat → Nat) (N : Nat) : CV → CV → Bool
  | .bool (.c a), .bool (.c b) => (a && b) || (!a && !b)
  | .int k (.c n), .int k' (.c m) => decide (k = k') && decide (n = m)
  | .ptr none, .ptr none => true
  | .ptr (some (b, o)), .ptr (some (b', o')) => Nat.blt b N && (Nat.beq (β b) b' && Nat.beq o o')
  | .slc none n c, .slc none n' c' => Nat.beq n n' && Nat.beq c c'
  | .slc (some (b, o)) n c, .slc (some (b', o')) n' c' => Nat.blt b N && (Nat.beq (β b) b' && (Nat.beq o o' && (Nat.beq n n' && Nat.beq c c')))
  | .emp, .emp => true
  | .agg l, .agg m => CV.eqvl β N l m
  | .tup l, .tup m => CV.eqvl β N l m
  | _, _ => false
def CV.eqvl (β : Nat → Nat) (N : Nat) : List CV → List CV → Bool
  | [], [] => true
  | c :: l, d :: m => CV.eqv β N c d && CV.eqvl β N l m
  | _, _ => false
end
section
variable {P : Program} {ρ : Env}
mutual
theorem CV.eqv_ok {β : Nat → Nat} {N : Nat} {σ τ : Mp} (hβ : ∀ b, b < N → τ b = σ (β b)) : ∀ (c d : CV) {v : Value}, CV.eqv β N c d = true → VR ρ σ d v → VR ρ τ c v := by
  intro c d v h hv
  unfold CV.eqv at h
  split at h
  · rename_i a b
    obtain rfl := hv.bool_inv
    have e : a = b := by cases a <;> cases b <;> first | rfl | cases h
    subst e
    exact .bool (.c a)
  · simp only [Bool.and_eq_true, decide_eq_true_eq] at h
    obtain ⟨rfl, rfl⟩ := h
    obtain rfl := hv.int_inv
    exact .int _ (.c _)
  · cases hv; exact .ptr0
  · rename_i b o b' o'
    simp only [Bool.and_eq_true] at h
    obtain ⟨h1, h2, h3⟩ := h
    obtain rfl := Nat.eq_of_beq_eq_true h2
    obtain rfl := Nat.eq_of_beq_eq_true h3
    cases hv with
    | ptr hl => exact .ptr ((hβ b (blt_lt h1)).trans hl)
  · simp only [Bool.and_eq_true] at h
    obtain ⟨h1, h2⟩ := h
    obtain rfl := Nat.eq_of_beq_eq_true h1
    obtain rfl := Nat.eq_of_beq_eq_true h2
    cases hv; exact .slc0
  · rename_i b o n c b' o' n' c'
    simp only [Bool.and_eq_true] at h
    obtain ⟨h1, h2, h3, h4, h5⟩ := h
    obtain rfl := Nat.eq_of_beq_eq_true h2
    obtain rfl := Nat.eq_of_beq_eq_true h3
    obtain rfl := Nat.eq_of_beq_eq_true h4
    obtain rfl := Nat.eq_of_beq_eq_true h5
    cases hv with
    | slc hl hc hs => exact .slc ((hβ b (blt_lt h1)).trans hl) hc hs
  · cases hv; exact .emp _ _
  · rename_i l m
    obtain ⟨cs, rfl, h1⟩ := hv.agg_inv
    exact .agg (CV.eqvl_ok hβ l m h h1)
  · rename_i l m
    obtain ⟨cs, rfl, h1⟩ := hv.tup_inv
    exact .tup (CV.eqvl_ok hβ l m h h1)
  · cases h
theorem CV.eqvl_ok {β : Nat → Nat} {N : Nat} {σ τ : Mp} (hβ : ∀ b, b < N → τ b = σ (β b)) : ∀ (l m : List CV) {vs : List Value}, CV.eqvl β N l m = true → VRl ρ σ m vs → VRl ρ τ l vs
  | [], [], _, _, hv => by cases hv; exact .nil
  | [], d :: m, _, h, _ => by unfold CV.eqvl at h; cases h
  | c :: l, [], _, h, _ => by unfold CV.eqvl at h; cases h
  | c :: l, d :: m, _, h, hv => by
    unfold CV.eqvl at h
    simp only [Bool.and_eq_true] at h
    cases hv with
    | cons h1 t1 => exact .cons (CV.eqv_ok hβ c d h.1 h1) (CV.eqvl_ok hβ l m h.2 t1)
end
abbrev KBlk := List CV × Nat
def KBlk.blk (x : KBlk) : Blk := ⟨.lit x.1, x.2, true, none⟩
noncomputable def hB : List KBlk → Nat → Tr Blk
  | [], _ => .nil
  | x :: l, q => (hB l (q + 1)).set q (KBlk.blk x)
theorem hB_get (i : Nat) : ∀ (l : List KBlk) (q : Nat) (k : Blk), (hB l q).get i = some k → ∃ j x, i = q + j ∧ l[j]? = some x ∧ k = KBlk.blk x
  | [], q, k, h => by simp [hB, Tr.get_nil] at h
  | x :: l, q, k, h => by
    simp only [hB, Tr.get_set] at h
    by_cases hi : i = q
    · rw [if_pos hi] at h
      cases h
      exact ⟨0, x, by omega, rfl, rfl⟩
    · rw [if_neg hi] at h
      obtain ⟨j, x', h1, h2, h3⟩ := hB_get i l (q + 1) k h
      exact ⟨j + 1, x', by omega, by simpa using h2, h3⟩
def nodB : List Nat → Bool
  | [] => true
  | b :: l => !(l.any (Nat.beq b)) && nodB l
theorem nodB_ok : ∀ {l : List Nat}, nodB l = true → ∀ (i j b : Nat), l[i]? = some b → l[j]? = some b → i = j
  | [], _, i, j, b, h, _ => by simp at h
  | c :: l, h, i, j, b, hi, hj => by
    unfold nodB at h
    simp only [Bool.and_eq_true, Bool.not_eq_true'] at h
    have no : ∀ j : Nat, l[j]? = some c → False := fun j hj => by
      have := List.any_eq_false.1 h.1 c (List.mem_of_getElem? hj)
      exact this (Nat.beq_refl c)
    cases i with
    | zero =>
      cases j with
      | zero => rfl
      | succ j =>
        have e0 : c = b := by simpa using hi
        subst e0
        exact (no j (by simpa using hj)).elim
    | succ i =>
      cases j with
      | zero =>
        have e0 : c = b := by simpa using hj
        subst e0
        exact (no i (by simpa using hi)).elim
      | succ j => exact congrArg Nat.succ (nodB_ok h.2 i j b (by simpa using hi) (by simpa using hj))
/-- A call: its arguments, their blocks, what it yields, the blocks that it makes and that matter (how the run calls them): they are numbered behind the arguments' blocks. -/
structure KCall where
  g : Nat
  args : List CV
  blks : List KBlk
  c : CV
  new : List (Nat × KBlk)
def KCall.n1 (K : KCall) : Nat := K.blks.length + K.new.length
/-- What the run calls a block. -/
def KCall.old (K : KCall) (b : Nat) : Nat := bif Nat.blt b K.blks.length then b else match K.new[b - K.blks.length]? with | some x => x.1 | none => 0
noncomputable def KCall.h1 (K : KCall) : Tr Blk := hB (K.new.map (·.2)) K.blks.length
/-- The run says so. -/
noncomputable def KCall.says (K : KCall) : Option Out → Bool
  | some ⟨.val c', s1, _, []⟩ => (match s1.pc with | [] => true | _ => false) && (CV.eqv K.old K.n1 K.c c' && ((K.new.all fun x => (Nat.ble K.blks.length x.1 && Nat.blt x.1 s1.next) && match s1.heap.get x.1 with | some ⟨.lit l, e, true, none⟩ => CV.eqvl K.old K.n1 x.2.1 l && Nat.beq e x.2.2 | _ => false) && (nodB (K.new.map (·.1)) && K.blks.all fun x => CV.eqvl id K.blks.length x.1 x.1)))
  | _ => false
structure KCall.Ok (K : KCall) (P : Program) (ρ : Env) : Prop where
  fn : ∃ fn, P.funcs[K.g]? = some fn ∧ fn.body.isSome = true
  rg : K.c.rng K.blks.length K.n1 = true
  hg : ∀ x ∈ K.new, CV.rngl K.blks.length K.n1 x.2.1 = true
  ctr : Ctr P ρ K.g K.args (hB K.blks 0) K.blks.length [] K.c K.h1 K.n1
theorem KCall.of_run {K : KCall} (hP : progOk P = true) {memo : Memo} (hM : MemoOk P (ctxOf P memo) ρ) {m : Nat} (hf : (match P.funcs[K.g]? with | some fn => fn.body.isSome | none => false) = true)
    (h2 : K.c.rng K.blks.length K.n1 = true) (h3 : (K.new.all fun x => CV.rngl K.blks.length K.n1 x.2.1) = true)
    (h : K.says (eval (ctxOf P memo) m K.blks.length (.call K.g K.args) ⟨hB K.blks 0, K.blks.length, [], []⟩) = true) : K.Ok P ρ := by
  refine ⟨?_, h2, fun x hx => List.all_eq_true.1 h3 x hx, ?_, ?_⟩
  · split at hf
    · rename_i fn hfn; exact ⟨fn, hfn, hf⟩
    · cases hf
  · split at hf
    · rename_i fn hfn; exact ⟨fn, hfn, hf⟩
    · cases hf
  · intro n σ w args' ha hH hN
    generalize he : eval (ctxOf P memo) m K.blks.length (.call K.g K.args) ⟨hB K.blks 0, K.blks.length, [], []⟩ = r at h
    unfold KCall.says at h
    split at h
    · rename_i c' s1 R
      simp only [Bool.and_eq_true] at h
      obtain ⟨q1, q3, q4, q5, q6⟩ := h
      have hpc : s1.pc = [] := by
        split at q1
        · assumption
        · cases q1
      have k := (eval_ok (ρ := ρ) (ctxOf_ok hP memo) hM m).call _ _ _ _ _ _ _ _ he
      have := k.run n σ (curOf (hB K.blks 0) K.blks.length) w args' (by rw [hpc]; intro p hp; cases hp) ha hH (fun b hb => by
        rcases hb with hb | hb
        · have : b < K.blks.length := k.lt.1 b hb
          exact if_pos this
        · cases hb) (fun b hb _ => hN b hb)
      refine this.mono ?_
      rintro e' w' ⟨v, rfl, σ1, x1, x2, x3, x4, x5⟩
      have x1 : Ext σ σ1 K.blks.length s1.next := x1
      have x3 : HR ρ σ1 (upd (curOf (hB K.blks 0) K.blks.length) K.blks.length s1.next s1.heap []) w' := x3
      have x5 : Fresh σ σ1 K.blks.length s1.next K.blks.length [] w := x5
      have old0 : ∀ b, b < K.blks.length → K.old b = b := fun b hb => by
        unfold KCall.old
        rw [show Nat.blt b K.blks.length = true from Nat.ble_eq_true_of_le hb, cond_true]
      have old1 : ∀ b, ¬ b < K.blks.length → b < K.n1 → ∃ x, K.new[b - K.blks.length]? = some x ∧ K.old b = x.1 := fun b hb hb2 => by
        have hl : b - K.blks.length < K.new.length := by unfold KCall.n1 at hb2; omega
        refine ⟨_, List.getElem?_eq_getElem hl, ?_⟩
        unfold KCall.old
        have hbf : Nat.blt b K.blks.length = false := by
          cases hbb : Nat.blt b K.blks.length with
          | false => rfl
          | true => exact absurd (blt_lt hbb) hb
        rw [hbf, cond_false, List.getElem?_eq_getElem hl]
      have newOk : ∀ x ∈ K.new, (K.blks.length ≤ x.1 ∧ x.1 < s1.next) ∧ ∃ l, s1.heap.get x.1 = some ⟨.lit l, x.2.2, true, none⟩ ∧ CV.eqvl K.old K.n1 x.2.1 l = true := fun x hx => by
        have := List.all_eq_true.1 q4 x hx
        simp only [Bool.and_eq_true] at this
        obtain ⟨⟨g1, g2⟩, g3⟩ := this
        refine ⟨⟨Nat.le_of_ble_eq_true g1, blt_lt g2⟩, ?_⟩
        split at g3
        · rename_i l e hl
          simp only [Bool.and_eq_true] at g3
          obtain rfl := Nat.eq_of_beq_eq_true g3.2
          exact ⟨l, hl, g3.1⟩
        · cases g3
      obtain ⟨σ2, hσ2⟩ : ∃ σ2 : Mp, σ2 = fun b => if b < K.n1 then σ1 (K.old b) else none := ⟨_, rfl⟩
      have hβ : ∀ b, b < K.n1 → σ2 b = σ1 (K.old b) := fun b hb => by rw [hσ2]; exact if_pos hb
      have hle : K.blks.length ≤ K.n1 := by unfold KCall.n1; omega
      have hlow : ∀ b, b < K.blks.length → σ2 b = σ1 b := fun b hb => by rw [hβ b (by omega), old0 b hb]
      have get : ∀ b k, upd (curOf (hB K.blks 0) K.blks.length) K.blks.length K.n1 K.h1 [] b = some k → b < K.n1 ∧ (∃ k1, upd (curOf (hB K.blks 0) K.blks.length) K.blks.length s1.next s1.heap [] (K.old b) = some k1 ∧ k.live = k1.live ∧ k.esz = k1.esz ∧ k.ext = none ∧ k1.ro = false ∧ ∀ us, VRl ρ σ1 k1.cells us → VRl ρ σ2 k.cells us) := by
        intro b k hk
        by_cases hb : b < K.blks.length
        · refine ⟨by omega, ?_⟩
          unfold upd at hk ⊢
          rw [old0 b hb]
          rw [if_neg (by simp; omega)] at hk ⊢
          have hk2 : curOf (hB K.blks 0) K.blks.length b = some k := hk
          unfold curOf at hk2
          rw [if_pos hb] at hk2
          obtain ⟨j, x, rfl, g1, rfl⟩ := hB_get b K.blks 0 k hk2
          exact ⟨_, hk, rfl, rfl, rfl, rfl, fun us hus => CV.eqvl_ok (fun b hb => hlow b hb) _ _ (List.all_eq_true.1 q6 x (List.mem_of_getElem? g1)) hus⟩
        · by_cases hb2 : b < K.n1
          · refine ⟨hb2, ?_⟩
            unfold upd at hk
            rw [if_pos (.inr ⟨by omega, hb2⟩)] at hk
            have hk : (hB (K.new.map (·.2)) K.blks.length).get b = some k := hk
            obtain ⟨j, x, rfl, g1, rfl⟩ := hB_get b _ _ k hk
            rw [List.getElem?_map] at g1
            obtain ⟨y, hy, hyo⟩ := old1 (K.blks.length + j) hb hb2
            rw [Nat.add_sub_cancel_left] at hy
            rw [hy] at g1
            obtain rfl : y.2 = x := Option.some.inj g1
            obtain ⟨⟨r1, r2⟩, l, r3, r4⟩ := newOk y (List.mem_of_getElem? hy)
            refine ⟨⟨.lit l, y.2.2, true, none⟩, ?_, rfl, rfl, rfl, rfl, fun us hus => CV.eqvl_ok hβ _ _ r4 hus⟩
            unfold upd
            rw [hyo, if_pos (.inr ⟨r1, r2⟩)]
            exact r3
          · unfold upd at hk
            rw [if_neg (by simp; omega)] at hk
            unfold curOf at hk
            rw [if_neg hb] at hk
            cases hk
      have inj : ∀ b b', b < K.n1 → b' < K.n1 → K.old b = K.old b' → b = b' := by
        intro b b' hb hb' he
        by_cases h1 : b < K.blks.length
        · rw [old0 b h1] at he
          by_cases h2 : b' < K.blks.length
          · rw [old0 b' h2] at he; exact he
          · obtain ⟨y, hy, hyo⟩ := old1 b' h2 hb'
            have := (newOk y (List.mem_of_getElem? hy)).1.1
            omega
        · obtain ⟨x, hx, hxo⟩ := old1 b h1 hb
          by_cases h2 : b' < K.blks.length
          · rw [old0 b' h2] at he
            have := (newOk x (List.mem_of_getElem? hx)).1.1
            omega
          · obtain ⟨y, hy, hyo⟩ := old1 b' h2 hb'
            have := nodB_ok q5 (b - K.blks.length) (b' - K.blks.length) x.1 (by rw [List.getElem?_map, hx]; rfl) (by rw [List.getElem?_map, hy]; show some y.1 = some x.1; rw [← hyo, ← he, hxo])
            omega
      refine ⟨v, rfl, σ2, fun b hb => ?_, CV.eqv_ok hβ _ _ q3 x2, ?_, x4, fun b l b1 b2 b3 => ?_⟩
      · have hb : b < K.blks.length ∨ K.n1 ≤ b := hb
        rcases hb with hb | hb
        · rw [hlow b hb]; exact x1 b (.inl hb)
        · rw [hσ2, hN b (by omega)]; exact if_neg (by omega)
      · refine ⟨fun b k l a1 a2 a3 => ?_, fun b b' k k' l l' a1 a2 a3 a4 a5 a6 a7 a8 => ?_, fun b k x l a1 a2 a3 => ?_, fun b b' k k' x x' l l' a1 a2 a3 a4 a5 a6 a7 => ?_, fun y hy => ⟨(x3.glob y hy).1, fun b k l a1 a2 ar a3 => ?_⟩⟩
        · obtain ⟨hb, k1, g1, g2, g3, _, _, g5⟩ := get b k a1
          rw [hβ b hb] at a3
          obtain ⟨cs, t, p, r1, r2, r3, r4, r5, r6⟩ := x3.cell _ k1 l g1 (g2 ▸ a2) a3
          have r7 := g5 _ r6
          have hln : k.cells.length = k1.cells.length := r7.length.symm.trans r6.length
          exact ⟨cs, t, p, r1, fun _ => r2 (by assumption), r3, g3.trans r4, by rw [hln]; exact r5, by rw [hln]; exact r7⟩
        · obtain ⟨hb, k1, g1, g2, _, _, g4, _⟩ := get b k a1
          obtain ⟨hb', k1', g1', g2', _, _, g4', _⟩ := get b' k' a4
          rw [hβ b hb] at a3
          rw [hβ b' hb'] at a6
          exact inj b b' hb hb' (x3.inj _ _ k1 k1' l l' g1 (g2 ▸ a2) a3 g1' (g2' ▸ a5) a6 a7 (.inl g4))
        · obtain ⟨_, _, _, _, _, g, _⟩ := get b k a1
          rw [g] at a2; cases a2
        · obtain ⟨_, _, _, _, _, g, _⟩ := get b k a1
          rw [g] at a2; cases a2
        · obtain ⟨hb, k1, g1, g2, _, _, g4, _⟩ := get b k a1
          rw [hβ b hb] at a3
          exact (x3.glob y hy).2 _ k1 l g1 (g2 ▸ a2) g4 a3
      · have b2 : b < K.n1 := b2
        have hnb : ¬ b < K.blks.length := by have b1 : K.blks.length ≤ b := b1; omega
        rw [hβ b b2] at b3
        obtain ⟨y, hy, hyo⟩ := old1 b hnb b2
        obtain ⟨⟨r1, r2⟩, _⟩ := newOk y (List.mem_of_getElem? hy)
        rw [hyo] at b3
        exact x5 y.1 l r1 r2 b3
    · cases h
/-- The new blocks, by the numbers that they get. -/
def newL (q : Nat) : List (Nat × KBlk) → List (Nat × Blk)
  | [] => []
  | x :: l => (q, KBlk.blk x.2) :: newL (q + 1) l
def KCall.newB (K : KCall) : List (Nat × Blk) := newL K.blks.length K.new
theorem newL_mem : ∀ {l : List (Nat × KBlk)} {q : Nat} {y : Nat × Blk}, y ∈ newL q l → (q ≤ y.1 ∧ y.1 < q + l.length) ∧ ∃ x ∈ l, y.2 = KBlk.blk x.2
  | [], q, y, h => by cases h
  | x :: l, q, y, h => by
    rcases List.mem_cons.1 h with rfl | h
    · exact ⟨⟨Nat.le_refl _, by simp⟩, x, List.mem_cons_self .., rfl⟩
    · obtain ⟨⟨h1, h2⟩, z, hz, e⟩ := newL_mem h
      exact ⟨⟨by omega, by simp only [List.length_cons]; omega⟩, z, List.mem_cons_of_mem _ hz, e⟩
theorem newL_find : ∀ (l : List (Nat × KBlk)) (q b : Nat), (newL q l).find? (fun x => x.1 == b) = if q ≤ b then (l[b - q]?).map (fun x => (b, KBlk.blk x.2)) else none
  | [], q, b => by simp [newL]
  | x :: l, q, b => by
    rw [newL, List.find?_cons]
    by_cases h : q = b
    · subst h; simp
    · have hf : (q == b) = false := by simpa using h
      rw [hf, newL_find l (q + 1) b]
      by_cases h2 : q + 1 ≤ b
      · rw [if_pos h2, if_pos (by omega), show b - q = (b - (q + 1)) + 1 by omega, List.getElem?_cons_succ]
      · rw [if_neg h2, if_neg (by omega)]
theorem hB_at : ∀ (l : List KBlk) (q b : Nat), (hB l q).get b = if q ≤ b then (l[b - q]?).map KBlk.blk else none
  | [], q, b => by simp [hB, Tr.get_nil]
  | x :: l, q, b => by
    rw [hB, Tr.get_set]
    by_cases h : b = q
    · subst h; simp
    · rw [if_neg h, hB_at l (q + 1) b]
      by_cases h2 : q + 1 ≤ b
      · rw [if_pos h2, if_pos (by omega), show b - q = (b - (q + 1)) + 1 by omega, List.getElem?_cons_succ]
      · rw [if_neg h2, if_neg (by omega)]
/-! ## The memo -/
def insM (b b' : Nat) (m : List (Nat × Nat)) : List (Nat × Nat) := bif m.any (fun x => Nat.beq x.1 b) then m else (b, b') :: m
mutual
def CV.uni : CV → CV → List (Nat × Nat) → List (Nat × Nat)
  | .ptr (some (b, _)), .ptr (some (b', _)), m => insM b b' m
  | .slc (some (b, _)) _ _, .slc (some (b', _)) _ _, m => insM b b' m
  | .agg l, .agg l', m => CV.unil l l' m
  | .tup l, .tup l', m => CV.unil l l' m
  | _, _, m => m
def CV.unil : List CV → List CV → List (Nat × Nat) → List (Nat × Nat)
  | c :: l, d :: l', m => CV.unil l l' (CV.uni c d m)
  | _, _, m => m
end
def lookM (m : List (Nat × Nat)) (b : Nat) : Nat := match m.find? (fun x => Nat.beq x.1 b) with | some x => x.2 | none => 0
noncomputable def uniB (s : St) : List KBlk → Nat → List (Nat × Nat) → List (Nat × Nat)
  | [], _, m => m
  | x :: l, i, m => uniB s l (i + 1) (match s.heap.get (lookM m i) with | some ⟨.lit k, _, _, _⟩ => CV.unil x.1 k m | _ => m)
noncomputable def chkB (s : St) (β : Nat → Nat) (N : Nat) : List KBlk → Nat → Bool
  | [], _ => true
  | x :: l, i => (match s.heap.get (β i) with | some ⟨.lit k, e, true, none⟩ => CV.eqvl β N x.1 k && (Nat.beq e x.2 && Nat.blt (β i) s.next) | _ => false) && chkB s β N l (i + 1)
theorem chkB_ok {s : St} {β : Nat → Nat} {N : Nat} : ∀ {l : List KBlk} {q : Nat}, chkB s β N l q = true → ∀ j x, l[j]? = some x → ∃ k e, s.heap.get (β (q + j)) = some ⟨.lit k, e, true, none⟩ ∧ CV.eqvl β N x.1 k = true ∧ e = x.2 ∧ β (q + j) < s.next
  | [], q, _, j, x, h => by simp at h
  | y :: l, q, h, j, x, hx => by
    unfold chkB at h
    simp only [Bool.and_eq_true] at h
    obtain ⟨h1, h2⟩ := h
    cases j with
    | zero =>
      have e0 : y = x := by simpa using hx
      subst e0
      split at h1
      · rename_i k e hk
        simp only [Bool.and_eq_true] at h1
        exact ⟨k, e, hk, h1.1, Nat.eq_of_beq_eq_true h1.2.1, blt_lt h1.2.2⟩
      · cases h1
    | succ j =>
      have := chkB_ok h2 j x (by simpa using hx)
      rw [show q + 1 + j = q + (j + 1) by omega] at this
      exact this
/-- The names that the blocks have. -/
noncomputable def KCall.bs (K : KCall) (s : St) (args : List CV) : List Nat := (List.range K.blks.length).map (lookM (uniB s K.blks 0 (CV.unil K.args args [])))
def bOf (bs : List Nat) (i : Nat) : Nat := (bs[i]?).getD 0
noncomputable def KCall.fits (K : KCall) (s : St) (args : List CV) (bs : List Nat) : Bool :=
  CV.eqvl (bOf bs) K.blks.length K.args args && (chkB s (bOf bs) K.blks.length K.blks 0 && (nodB bs && Nat.beq bs.length K.blks.length))
noncomputable def memoK (K : KCall) (inner : Memo) : Memo := fun f args s =>
  bif Nat.beq f K.g && K.fits s args (K.bs s args) then
    some (K.c.ren (liftName K.blks.length s.next), { s with heap := putNew K.blks.length s.next s.heap K.newB, next := s.next + (K.n1 - K.blks.length) }, K.bs s args, [])
  else inner f args s
theorem memoK_ok {K : KCall} {inner : Memo} (hK : K.Ok P ρ) (hi : MemoOk P (ctxOf P inner) ρ) : MemoOk P (ctxOf P (memoK K inner)) ρ := by
  have lift : ∀ {f args s c s' R' W}, CallOk P (ctxOf P inner) ρ f args s c s' R' W → CallOk P (ctxOf P (memoK K inner)) ρ f args s c s' R' W := fun h => ⟨h.fn, h.frm, h.lt, h.run⟩
  intro f args s c s' R' W h0
  have h : memoK K inner f args s = some (c, s', R', W) := h0
  clear h0
  unfold memoK at h
  generalize hbs : K.bs s args = bs at h
  cases hf : (Nat.beq f K.g && K.fits s args bs) with
  | false => rw [hf, cond_false] at h; exact lift (hi _ _ _ _ _ _ _ h)
  | true =>
    rw [hf, cond_true] at h
    cases h
    simp only [Bool.and_eq_true, KCall.fits] at hf
    obtain ⟨f1, f2, f3, f4, f5⟩ := hf
    obtain rfl := Nat.eq_of_beq_eq_true f1
    have hlen := Nat.eq_of_beq_eq_true f5
    have hblk := chkB_ok f3
    have at' : ∀ i, i < K.blks.length → R'[i]? = some (bOf R' i) := fun i hi => by
      unfold bOf
      rw [List.getElem?_eq_getElem (by omega)]
      rfl
    have rngw : ∀ x ∈ K.newB, K.blks.length ≤ x.1 ∧ x.1 < K.n1 := fun x hx => (newL_mem hx).1
    refine Ctr.callS (base := K.blks.length) (n1 := K.n1) (args := K.args) (h0 := hB K.blks 0) (h1 := K.h1) (K := fun _ => hK.ctr) hK.fn (by unfold KCall.n1; omega) rfl ⟨[], rfl⟩ (fun b hb => ?_) (fun j hj kb hk => ?_) (fun b hb => ?_) (fun σ cur w l hp hl hH hcur => ?_) (fun σ σ2 v hl h => VR.lift hl h hK.rg)
    · show (putNew _ _ _ _).get b = _
      rw [get_putNew]
      split
      · rename_i x hx
        have h1 := List.find?_some hx
        have h2 := List.mem_of_find?_eq_some hx
        simp only [beq_iff_eq] at h1
        obtain ⟨q1, q2⟩ := rngw _ h2
        refine absurd ?_ hb
        show s.next ≤ b ∧ b < s.next + (K.n1 - K.blks.length)
        unfold liftName at h1
        omega
      · rfl
    · have hk : (putNew K.blks.length s.next s.heap K.newB).get (s.next + j) = some kb := hk
      rw [get_putNew] at hk
      have e : ∀ x ∈ K.newB, (liftName K.blks.length s.next x.1 == s.next + j) = (x.1 == K.blks.length + j) := fun x hx => by
        obtain ⟨q1, q2⟩ := rngw x hx
        unfold liftName
        rw [Bool.eq_iff_iff]
        simp only [beq_iff_eq]
        omega
      have hcg := find_congr e
      rw [hcg] at hk
      have hjl : j < K.new.length := by unfold KCall.n1 at hj; omega
      have hfd : K.newB.find? (fun x => x.1 == K.blks.length + j) = some (K.blks.length + j, KBlk.blk K.new[j].2) := by
        unfold KCall.newB
        rw [newL_find, if_pos (by omega), Nat.add_sub_cancel_left, List.getElem?_eq_getElem hjl]
        rfl
      rw [hfd] at hk
      cases hk
      have hmem : K.new[j] ∈ K.new := List.getElem_mem hjl
      have g1 := hK.hg _ hmem
      refine ⟨KBlk.blk K.new[j].2, ?_, rfl, rfl, rfl, fun h => rfl, fun σ σ2 us hl h => Blk.lift (k := KBlk.blk K.new[j].2) hl g1 h⟩
      unfold KCall.h1
      rw [hB_at, if_pos (by omega), Nat.add_sub_cancel_left, List.getElem?_map, List.getElem?_eq_getElem hjl]
      rfl
    · obtain ⟨i, hi'⟩ := List.getElem?_of_mem hb
      have hil : i < K.blks.length := by
        have := (List.getElem?_eq_some_iff.1 hi').1
        omega
      obtain ⟨k, e, _, _, _, q⟩ := hblk i _ (List.getElem?_eq_getElem hil)
      rw [Nat.zero_add] at q
      have := at' i hil
      rw [hi'] at this
      rw [Option.some.inj this]; exact q
    · have hτ : ∀ b, b < K.blks.length → (fun i => if i < K.blks.length then σ (bOf R' i) else none) b = σ (bOf R' b) := fun b hb => if_pos hb
      refine ⟨fun i => if i < K.blks.length then σ (bOf R' i) else none, CV.eqvl_ok hτ _ _ f2 hl, ?_, fun b hb => if_neg (by omega)⟩
      have get : ∀ b k, curOf (hB K.blks 0) K.blks.length b = some k → ∃ x k1, b < K.blks.length ∧ k = KBlk.blk x ∧ cur (bOf R' b) = some ⟨.lit k1, x.2, true, none⟩ ∧ ∀ us, VRl ρ σ k1 us → VRl ρ (fun i => if i < K.blks.length then σ (bOf R' i) else none) x.1 us := by
        intro b k hk
        unfold curOf at hk
        split at hk
        · rename_i hb
          obtain ⟨j, x, rfl, g1, rfl⟩ := hB_get b K.blks 0 k hk
          obtain ⟨k1, e, c1, c2, rfl, c4⟩ := hblk j x g1
          have hm : bOf R' (0 + j) ∈ R' := List.mem_of_getElem? (at' _ hb)
          exact ⟨x, k1, hb, rfl, (hcur _ hm).trans c1, fun us hus => CV.eqvl_ok hτ _ _ c2 hus⟩
        · cases hk
      refine ⟨fun b k l a1 a2 a3 => ?_, fun b b' k k' l l' a1 a2 a3 a4 a5 a6 a7 a8 => ?_, fun b k x l a1 a2 a3 => ?_, fun b b' k k' x x' l l' a1 a2 a3 a4 a5 a6 a7 => ?_, fun y hy => ⟨(hH.glob y hy).1, fun b k l a1 a2 ar a3 => ?_⟩⟩
      · obtain ⟨x, k1, hb, rfl, q1, q2⟩ := get b k a1
        have a3 : (if b < K.blks.length then σ (bOf R' b) else none) = some l := a3
        rw [if_pos hb] at a3
        obtain ⟨cs, t, p, r1, r2, r3, r4, r5, r6⟩ := hH.cell _ _ l q1 rfl a3
        have r7 := q2 _ r6
        have r6l := r6.length
        have r7l := r7.length
        have e1 : Blk.cells ⟨.lit k1, x.2, true, none⟩ = k1 := rfl
        have e2 : Blk.cells (KBlk.blk x) = x.1 := rfl
        rw [e1] at r5 r6 r7 r7l r6l
        have hln : x.1.length = k1.length := r7l.symm.trans r6l
        exact ⟨cs, t, p, r1, fun _ => r2 rfl, r3, r4, by rw [e2, hln]; exact r5, by rw [e2, hln]; exact r7⟩
      · obtain ⟨x, k1, hb, rfl, q1, _⟩ := get b k a1
        obtain ⟨x', k1', hb', rfl, q1', _⟩ := get b' k' a4
        have a3 : (if b < K.blks.length then σ (bOf R' b) else none) = some l := a3
        have a6 : (if b' < K.blks.length then σ (bOf R' b') else none) = some l' := a6
        rw [if_pos hb] at a3
        rw [if_pos hb'] at a6
        have := hH.inj _ _ _ _ l l' q1 rfl a3 q1' rfl a6 a7 (.inl rfl)
        exact nodB_ok f4 b b' _ (at' b hb) (by rw [this]; exact at' b' hb')
      · obtain ⟨x', k1, hb, rfl, _⟩ := get b k a1
        cases a2
      · obtain ⟨x', k1, hb, rfl, _⟩ := get b k a1
        cases a2
      · obtain ⟨x', k1, hb, rfl, q1, _⟩ := get b k a1
        have a3 : (if b < K.blks.length then σ (bOf R' b) else none) = some l := a3
        rw [if_pos hb] at a3
        exact (hH.glob y hy).2 _ _ l q1 rfl rfl a3
end
end Go.Proofs.Ythagjhadjpangaa.Cx

/- Calls that acme/acmelaw07.known makes, each known by a run of its own. Made by tools/cxkcalls.py. -/
namespace Go.Proofs.Ythagjhadjpangaa.Cx
set_option maxRecDepth 100000
set_option linter.unusedVariables false
open Go Go.Proofs Go.RowKit
def CxKn07K0 : KCall := ⟨18, [.agg [.bool (.c false), .int .i64 (.c (-1000)), .int .i64 (.c 1000), .int .i64 (.c (-500)), .int .i64 (.c 500), .slc (some (0, 0)) 2 2], .slc (some (1, 0)) 2 2, .int .i64 (.c 0), .int .i64 (.c 200)], [([.int .i64 (.c 10), .int .i64 (.c 20), .int .i64 (.c 50), .int .i64 (.c 100)], 2), ([.int .i64 (.c 200), .int .i64 (.c 0), .int .i64 (.c 100000), .int .i64 (.c 110000), .int .i64 (.c 100), .int .i64 (.c 1), .int .i64 (.c 100000), .int .i64 (.c 110000)], 4)], .tup [.agg [.int .i64 (.c 2000), .int .i64 (.c 4000)], .int .i64 (.c 0)], []⟩
theorem CxKn07K0_run : CxKn07K0.says (eval (ctxOf Try.prog memo0) 1000 CxKn07K0.blks.length (.call CxKn07K0.g CxKn07K0.args) ⟨hB CxKn07K0.blks 0, CxKn07K0.blks.length, [], []⟩) = true := by kernel_rfl
theorem CxKn07K0_ok {ρ : Env} : CxKn07K0.Ok Try.prog ρ := KCall.of_run try_ok memo0_ok (by kernel_rfl) (by kernel_rfl) (by kernel_rfl) CxKn07K0_run
def CxKn07K1 : KCall := ⟨19, [.agg [.bool (.c false), .int .i64 (.c (-1000)), .int .i64 (.c 1000), .int .i64 (.c (-500)), .int .i64 (.c 500), .slc (some (0, 0)) 2 2], .slc (some (1, 0)) 2 2, .int .i64 (.c 0), .int .i64 (.c 200)], [([.int .i64 (.c 10), .int .i64 (.c 20), .int .i64 (.c 50), .int .i64 (.c 100)], 2), ([.int .i64 (.c 200), .int .i64 (.c 0), .int .i64 (.c 100000), .int .i64 (.c 110000), .int .i64 (.c 100), .int .i64 (.c 1), .int .i64 (.c 100000), .int .i64 (.c 110000)], 4)], .tup [.agg [.int .i64 (.c 101500), .int .i64 (.c 104520)], .int .i64 (.c 0)], []⟩
theorem CxKn07K1_run : CxKn07K1.says (eval (ctxOf Try.prog memo0) 1000 CxKn07K1.blks.length (.call CxKn07K1.g CxKn07K1.args) ⟨hB CxKn07K1.blks 0, CxKn07K1.blks.length, [], []⟩) = true := by kernel_rfl
theorem CxKn07K1_ok {ρ : Env} : CxKn07K1.Ok Try.prog ρ := KCall.of_run try_ok memo0_ok (by kernel_rfl) (by kernel_rfl) (by kernel_rfl) CxKn07K1_run
end Go.Proofs.Ythagjhadjpangaa.Cx

/- Calls that acme/acmelaw07.known makes, each known by a run of its own. Made by tools/cxkcalls.py. -/
namespace Go.Proofs.Ythagjhadjpangaa.Cx
set_option maxRecDepth 100000
set_option linter.unusedVariables false
open Go Go.Proofs Go.RowKit
def CxKn07K2 : KCall := ⟨25, [.agg [.bool (.c false), .int .i64 (.c (-1000)), .int .i64 (.c 1000), .int .i64 (.c (-500)), .int .i64 (.c 500), .slc (some (0, 0)) 2 2], .slc (some (1, 0)) 2 2, .int .i64 (.c 0)], [([.int .i64 (.c 10), .int .i64 (.c 20), .int .i64 (.c 50), .int .i64 (.c 100)], 2), ([.int .i64 (.c 200), .int .i64 (.c 0), .int .i64 (.c 100000), .int .i64 (.c 110000), .int .i64 (.c 100), .int .i64 (.c 1), .int .i64 (.c 100000), .int .i64 (.c 110000)], 4)], .tup [.int .i64 (.c 231), .int .i64 (.c 0)], []⟩
theorem CxKn07K2_run : CxKn07K2.says (eval (ctxOf Try.prog memo0) 1000 CxKn07K2.blks.length (.call CxKn07K2.g CxKn07K2.args) ⟨hB CxKn07K2.blks 0, CxKn07K2.blks.length, [], []⟩) = true := by kernel_rfl
theorem CxKn07K2_ok {ρ : Env} : CxKn07K2.Ok Try.prog ρ := KCall.of_run try_ok memo0_ok (by kernel_rfl) (by kernel_rfl) (by kernel_rfl) CxKn07K2_run
def CxKn07K3 : KCall := ⟨26, [.agg [.bool (.c false), .int .i64 (.c (-1000)), .int .i64 (.c 1000), .int .i64 (.c (-500)), .int .i64 (.c 500), .slc (some (0, 0)) 2 2], .slc (some (1, 0)) 2 2], [([.int .i64 (.c 10), .int .i64 (.c 20), .int .i64 (.c 50), .int .i64 (.c 100)], 2), ([.int .i64 (.c 200), .int .i64 (.c 0), .int .i64 (.c 100000), .int .i64 (.c 110000), .int .i64 (.c 100), .int .i64 (.c 1), .int .i64 (.c 100000), .int .i64 (.c 110000)], 4)], .tup [.slc (some (2, 0)) 2 2, .int .i64 (.c 0)], [(725, ([.int .i64 (.c 0), .int .i64 (.c 101500), .int .i64 (.c 231), .int .i64 (.c 101500)], 2))]⟩
theorem CxKn07K3_run : CxKn07K3.says (eval (ctxOf Try.prog memo0) 1000 CxKn07K3.blks.length (.call CxKn07K3.g CxKn07K3.args) ⟨hB CxKn07K3.blks 0, CxKn07K3.blks.length, [], []⟩) = true := by kernel_rfl
theorem CxKn07K3_ok {ρ : Env} : CxKn07K3.Ok Try.prog ρ := KCall.of_run try_ok memo0_ok (by kernel_rfl) (by kernel_rfl) (by kernel_rfl) CxKn07K3_run
end Go.Proofs.Ythagjhadjpangaa.Cx

/- Calls that acme/acmelaw07.known makes, each known by a run of its own. Made by tools/cxkcalls.py. -/
namespace Go.Proofs.Ythagjhadjpangaa.Cx
set_option maxRecDepth 100000
set_option linter.unusedVariables false
open Go Go.Proofs Go.RowKit
def CxKn07K4 : KCall := ⟨30, [.agg [.bool (.c false), .int .i64 (.c (-1000)), .int .i64 (.c 1000), .int .i64 (.c (-500)), .int .i64 (.c 500), .slc (some (0, 0)) 2 2], .slc (some (1, 0)) 2 2, .int .i64 (.c 1)], [([.int .i64 (.c 10), .int .i64 (.c 20), .int .i64 (.c 50), .int .i64 (.c 100)], 2), ([.int .i64 (.c 200), .int .i64 (.c 0), .int .i64 (.c 100000), .int .i64 (.c 110000), .int .i64 (.c 100), .int .i64 (.c 1), .int .i64 (.c 100000), .int .i64 (.c 110000)], 4)], .tup [.int .i64 (.c 231), .int .i64 (.c 0)], []⟩
theorem CxKn07K4_run : CxKn07K4.says (eval (ctxOf Try.prog memo0) 1000 CxKn07K4.blks.length (.call CxKn07K4.g CxKn07K4.args) ⟨hB CxKn07K4.blks 0, CxKn07K4.blks.length, [], []⟩) = true := by kernel_rfl
theorem CxKn07K4_ok {ρ : Env} : CxKn07K4.Ok Try.prog ρ := KCall.of_run try_ok memo0_ok (by kernel_rfl) (by kernel_rfl) (by kernel_rfl) CxKn07K4_run
def CxKn07K5 : KCall := ⟨34, [.agg [.bool (.c false), .int .i64 (.c (-1000)), .int .i64 (.c 1000), .int .i64 (.c (-500)), .int .i64 (.c 500), .slc (some (0, 0)) 2 2], .slc (some (1, 0)) 2 2, .slc (some (2, 0)) 1 1], [([.int .i64 (.c 10), .int .i64 (.c 20), .int .i64 (.c 50), .int .i64 (.c 100)], 2), ([.int .i64 (.c 200), .int .i64 (.c 0), .int .i64 (.c 100000), .int .i64 (.c 110000), .int .i64 (.c 100), .int .i64 (.c 1), .int .i64 (.c 100000), .int .i64 (.c 110000)], 4), ([.int .i64 (.c 0), .int .i64 (.c 102000)], 2)], .tup [.int .i64 (.c 226), .int .i64 (.c 0)], []⟩
theorem CxKn07K5_run : CxKn07K5.says (eval (ctxOf Try.prog memo0) 1000 CxKn07K5.blks.length (.call CxKn07K5.g CxKn07K5.args) ⟨hB CxKn07K5.blks 0, CxKn07K5.blks.length, [], []⟩) = true := by kernel_rfl
theorem CxKn07K5_ok {ρ : Env} : CxKn07K5.Ok Try.prog ρ := KCall.of_run try_ok memo0_ok (by kernel_rfl) (by kernel_rfl) (by kernel_rfl) CxKn07K5_run
end Go.Proofs.Ythagjhadjpangaa.Cx

/- Calls that acme/acmelaw07.known makes, each known by a run of its own. Made by tools/cxkcalls.py. -/
namespace Go.Proofs.Ythagjhadjpangaa.Cx
set_option maxRecDepth 100000
set_option linter.unusedVariables false
open Go Go.Proofs Go.RowKit
def CxKn07K6 : KCall := ⟨35, [.agg [.bool (.c false), .int .i64 (.c (-1000)), .int .i64 (.c 1000), .int .i64 (.c (-500)), .int .i64 (.c 500), .slc (some (0, 0)) 2 2], .slc (some (1, 0)) 2 2, .slc (some (2, 0)) 2 2], [([.int .i64 (.c 10), .int .i64 (.c 20), .int .i64 (.c 50), .int .i64 (.c 100)], 2), ([.int .i64 (.c 200), .int .i64 (.c 0), .int .i64 (.c 100000), .int .i64 (.c 110000), .int .i64 (.c 100), .int .i64 (.c 1), .int .i64 (.c 100000), .int .i64 (.c 110000)], 4), ([.int .i64 (.c 0), .int .i64 (.c 231)], 1)], .tup [.int .i64 (.c (-1)), .int .i64 (.c 0)], []⟩
theorem CxKn07K6_run : CxKn07K6.says (eval (ctxOf Try.prog memo0) 1000 CxKn07K6.blks.length (.call CxKn07K6.g CxKn07K6.args) ⟨hB CxKn07K6.blks 0, CxKn07K6.blks.length, [], []⟩) = true := by kernel_rfl
theorem CxKn07K6_ok {ρ : Env} : CxKn07K6.Ok Try.prog ρ := KCall.of_run try_ok memo0_ok (by kernel_rfl) (by kernel_rfl) (by kernel_rfl) CxKn07K6_run
def CxKn07K7 : KCall := ⟨35, [.agg [.bool (.c false), .int .i64 (.c (-1000)), .int .i64 (.c 1000), .int .i64 (.c (-500)), .int .i64 (.c 500), .slc (some (0, 0)) 2 2], .slc (some (1, 0)) 2 2, .slc (some (2, 0)) 2 2], [([.int .i64 (.c 10), .int .i64 (.c 20), .int .i64 (.c 50), .int .i64 (.c 100)], 2), ([.int .i64 (.c 200), .int .i64 (.c 0), .int .i64 (.c 100000), .int .i64 (.c 110000), .int .i64 (.c 100), .int .i64 (.c 1), .int .i64 (.c 100000), .int .i64 (.c 110000)], 4), ([.int .i64 (.c 0), .int .i64 (.c 230)], 1)], .tup [.int .i64 (.c 0), .int .i64 (.c 0)], []⟩
theorem CxKn07K7_run : CxKn07K7.says (eval (ctxOf Try.prog memo0) 1000 CxKn07K7.blks.length (.call CxKn07K7.g CxKn07K7.args) ⟨hB CxKn07K7.blks 0, CxKn07K7.blks.length, [], []⟩) = true := by kernel_rfl
theorem CxKn07K7_ok {ρ : Env} : CxKn07K7.Ok Try.prog ρ := KCall.of_run try_ok memo0_ok (by kernel_rfl) (by kernel_rfl) (by kernel_rfl) CxKn07K7_run
end Go.Proofs.Ythagjhadjpangaa.Cx

/- Calls that acme/acmelaw07.known makes, each known by a run of its own. Made by tools/cxkcalls.py. -/
namespace Go.Proofs.Ythagjhadjpangaa.Cx
set_option maxRecDepth 100000
set_option linter.unusedVariables false
open Go Go.Proofs Go.RowKit
def CxKn07K8 : KCall := ⟨41, [.agg [.bool (.c false), .int .i64 (.c (-1000)), .int .i64 (.c 1000), .int .i64 (.c (-500)), .int .i64 (.c 500), .slc (some (0, 0)) 2 2], .agg [.int .i64 (.c 102400), .int .i64 (.c 103600)], .int .i64 (.c 1), .agg [.int .i64 (.c 100000), .int .i64 (.c 110000)]], [([.int .i64 (.c 10), .int .i64 (.c 20), .int .i64 (.c 50), .int .i64 (.c 100)], 2)], .tup [.int .i64 (.c 60), .int .i64 (.c 0)], []⟩
theorem CxKn07K8_run : CxKn07K8.says (eval (ctxOf Try.prog memo0) 1000 CxKn07K8.blks.length (.call CxKn07K8.g CxKn07K8.args) ⟨hB CxKn07K8.blks 0, CxKn07K8.blks.length, [], []⟩) = true := by kernel_rfl
theorem CxKn07K8_ok {ρ : Env} : CxKn07K8.Ok Try.prog ρ := KCall.of_run try_ok memo0_ok (by kernel_rfl) (by kernel_rfl) (by kernel_rfl) CxKn07K8_run
end Go.Proofs.Ythagjhadjpangaa.Cx

/- acme/acmelaw07.known returns true, in every world that holds what the listed variables hold: by the evaluator, its heavy calls by runs of their own. Made by tools/cxkcalls.py. -/
namespace Go.Proofs.Ythagjhadjpangaa.Cx
set_option maxRecDepth 100000
set_option linter.unusedVariables false
open Go Go.Proofs Go.RowKit
noncomputable def CxKn07C : Ctx := ctxOf Try.prog (memoK CxKn07K0 (memoK CxKn07K1 (memoK CxKn07K2 (memoK CxKn07K3 (memoK CxKn07K4 (memoK CxKn07K5 (memoK CxKn07K6 (memoK CxKn07K7 (memoK CxKn07K8 memo0)))))))))
theorem CxKn07_run : isTrue (eval CxKn07C 1000 0 (.call 14 []) .empty) = true := by kernel_rfl
theorem CxKn07_known : KnownB Try.prog 14 := known_of try_ok (memoK_ok CxKn07K0_ok (memoK_ok CxKn07K1_ok (memoK_ok CxKn07K2_ok (memoK_ok CxKn07K3_ok (memoK_ok CxKn07K4_ok (memoK_ok CxKn07K5_ok (memoK_ok CxKn07K6_ok (memoK_ok CxKn07K7_ok (memoK_ok CxKn07K8_ok memo0_ok))))))))) (by kernel_rfl) CxKn07_run
end Go.Proofs.Ythagjhadjpangaa.Cx

/- acme/acmelaw07.DieMosts as an automaton. Made by tools/cxauto.py. -/
namespace Go.Proofs.Ythagjhadjpangaa.Cx
set_option linter.unusedVariables false
set_option linter.unusedSimpArgs false
set_option maxRecDepth 100000
open Go Go.Proofs Go.RowKit
abbrev dlmR := Bool
instance : Inhabited dlmR := ⟨false⟩
end Go.Proofs.Ythagjhadjpangaa.Cx

/- Package die: Most, the program's and the reference's; DieMosts: the law's run. -/
namespace Go.Proofs.Ythagjhadjpangaa.Cx
set_option linter.unusedVariables false
set_option linter.unusedSimpArgs false
set_option maxRecDepth 100000
set_option maxHeartbeats 4000000
open Go Go.RowKit
section
variable {a0 : Bool} {a1 a2 a3 a4 : Int} {a5 : Nat} {a6 a7 : Nat → Int} {a8 : Nat} {a9 a10 a11 a12 : Nat → Int} {a13 : Int}
end
end Go.Proofs.Ythagjhadjpangaa.Cx

/- Package die: no fewer settings will do, in plain Lean. -/
namespace Go.Proofs.Ythagjhadjpangaa.Cx
set_option linter.unusedVariables false
set_option linter.unusedSimpArgs false
set_option maxRecDepth 100000
set_option maxHeartbeats 4000000
open Go Go.RowKit
section
variable {T : Int} {lo hi : Int → Nat → Int} {k : Nat} {f : Int} {F G : Nat → Int}
theorem Chn.ge (m : Late T lo hi) (hT : 0 ≤ T) (h : Chn T lo hi k f F G) : GE T lo hi k = f ∧ ∀ i, i < k → F i = GE T lo hi i ∧ GE T lo hi i < GE T lo hi (i + 1) := by
  obtain ⟨E, e0, ek, h⟩ := h
  have ag : ∀ i, i ≤ k → GE T lo hi i = E i := by
    intro i
    induction i with
    | zero => intro _; rw [GE, e0]
    | succ i ih =>
      intro hq
      have a := ih (by omega)
      obtain ⟨_, J, j0, r, e, _⟩ := h i (by omega)
      have g := GE_rng m hT i
      rw [← a] at r e
      rw [GE, JO_of m g.1 g.2 r, e]
  refine ⟨by rw [ag k (Nat.le_refl _), ek], fun i hq => ?_⟩
  obtain ⟨a, J, j0, r, e, _⟩ := h i hq
  rw [ag i (by omega), ag (i + 1) (by omega)]
  exact ⟨a, by omega⟩
theorem Stk.less (m : Late T lo hi) (hT : 0 ≤ T) (h : Stk T lo hi) (j : Nat) : GE T lo hi j < T := by
  obtain ⟨k, f, F, G, c, hf, hs⟩ := h
  have e := (c.ge m hT).1
  have r := GE_rng m hT k
  have jo : JO T lo hi (GE T lo hi k) = 0 := by rw [e]; exact JO_of m (by omega) (by omega) hs
  by_cases hj : j ≤ k
  · have := GE_mono m (i := j) k hj
    omega
  · have := GE_stuck m jo (j - k)
    rw [show k + (j - k) = j by omega] at this
    omega
end
section
variable {b : Bool} {s1 s2 c1 c2 : Int} {n : Nat} {w1 w2 : Nat → Int} {m : Nat} {pc st zl zh : Nat → Int}
end
end Go.Proofs.Ythagjhadjpangaa.Cx

/- Package die: a job whose spans are narrower, or whose zones are wider, needs no more settings. -/
namespace Go.Proofs.Ythagjhadjpangaa.Cx
set_option linter.unusedVariables false
set_option linter.unusedSimpArgs false
set_option maxRecDepth 100000
set_option maxHeartbeats 4000000
open Go Go.RowKit
theorem GE_more {T : Int} {lo hi lo' hi' : Int → Nat → Int} (m : Late T lo hi) (m' : Late T lo' hi') (hT : 0 ≤ T) (hc : ∀ f n, 0 ≤ f → f < n → n ≤ T → CanP lo hi f n → CanP lo' hi' f n) : ∀ k, GE T lo hi k ≤ GE T lo' hi' k
  | 0 => Int.le_refl _
  | k + 1 => by
    have a := GE_more m m' hT hc k
    have r := GE_rng m hT k
    have r' := GE_rng m' hT k
    have s := GE_rng m hT (k + 1)
    have mo := GE_mono m' (i := k) (k + 1) (by omega)
    by_cases hx : GE T lo hi (k + 1) ≤ GE T lo' hi' k
    · omega
    · have c := (can_iff m r.1 (n := GE T lo hi (k + 1)) (by omega) s.2).2 (by rw [GE]; exact Int.le_refl _)
      have c2 := m'.late _ _ _ r.1 a (by omega) s.2 (hc _ _ r.1 (by omega) s.2 c)
      have := (can_iff m' r'.1 (by omega) s.2).1 c2
      rw [show GE T lo' hi' (k + 1) = GE T lo' hi' k + JO T lo' hi' (GE T lo' hi' k) from rfl]
      exact this
section
variable {b : Bool} {s1 s2 c1 c2 : Int} {n : Nat} {w1 w2 : Nat → Int} {m : Nat} {pc st zl zh : Nat → Int} {S2 C1 : Int} {W2 ZH : Nat → Int} {k : Nat} {F G : Nat → Int}
end
end Go.Proofs.Ythagjhadjpangaa.Cx

/- Package die: a tap is a die turned round, in plain Lean. -/
namespace Go.Proofs.Ythagjhadjpangaa.Cx
set_option linter.unusedVariables false
set_option linter.unusedSimpArgs false
set_option maxRecDepth 100000
set_option maxHeartbeats 4000000
open Go Go.RowKit
theorem LoM_turn {t c : Int} {tl th : Nat → Int} : ∀ n, (∀ j, j < n → tl j = c - th j) → LoM (c - t) tl n = c - HiM t th n
  | 0, _ => rfl
  | n + 1, h => by
    rw [LoM, HiM, LoM_turn n (fun j hj => h j (by omega)), h n (by omega)]
    omega
theorem HiM_turn {t c : Int} {tl th : Nat → Int} : ∀ n, (∀ j, j < n → th j = c - tl j) → HiM (c - t) th n = c - LoM t tl n
  | 0, _ => rfl
  | n + 1, h => by
    rw [LoM, HiM, HiM_turn n (fun j hj => h j (by omega)), h n (by omega)]
    omega
section
variable {b : Bool} {s1 s2 c1 c2 : Int} {n : Nat} {w1 w2 : Nat → Int} {m : Nat} {pc st zl zh : Nat → Int} {zl' zh' : Nat → Int} {f : Int} {k : Nat}
theorem turn_job (h : JobOk s1 s2 c1 c2 n w1 w2 m pc st zl zh) (hz : ∀ i, i < m → zl' i = 20000 - zh i ∧ zh' i = 20000 - zl i) (hb : ∀ i, i < m → zh i ≤ 20000) : JobOk (0 - s2) (0 - s1) (0 - c2) (0 - c1) n w1 w2 m pc st zl' zh' := by
  obtain ⟨⟨t0, t1, t2, t3⟩, few, ord⟩ := h
  unfold VOk at t2 t3
  refine ⟨⟨t0, t1, by unfold VOk; omega, by unfold VOk; omega⟩, few, fun i hi => ?_⟩
  obtain ⟨⟨a1, a2, a3⟩, a4⟩ := ord i hi
  have b := hz i hi
  have c := hb i hi
  unfold VOk at a3
  exact ⟨⟨a1, a2, by unfold VOk; omega⟩, a4⟩
theorem turn_tl (h : JobOk s1 s2 c1 c2 n w1 w2 m pc st zl zh) (hz : ∀ i, i < m → zl' i = 20000 - zh i ∧ zh' i = 20000 - zl i) (h0 : 0 ≤ f) {j : Nat} (h1 : f + j < PS pc m) : tlP (!b) (0 - s2) (0 - c2) w1 w2 st pc zl' m f j = 20000 - thP b s2 c2 w1 w2 st pc zh m f j ∧ thP (!b) (0 - s1) (0 - c1) w1 w2 st pc zh' m f j = 20000 - tlP b s1 c1 w1 w2 st pc zl m f j := by
  have t := (h.at' (x := f + j) (by omega) h1).1
  have z := hz _ t
  unfold tlP thP gL gH
  rw [z.1, z.2]
  cases b <;> simp only [cond_true, cond_false, Bool.not_true, Bool.not_false] <;> omega
theorem turn_lo (h : JobOk s1 s2 c1 c2 n w1 w2 m pc st zl zh) (hz : ∀ i, i < m → zl' i = 20000 - zh i ∧ zh' i = 20000 - zl i) (h0 : 0 ≤ f) (hk : 0 < k) (h1 : f + k ≤ PS pc m) : loJ (!b) (0 - s2) (0 - c2) w1 w2 m pc st zl' f k = 20000 - (hiJ b s2 c2 w1 w2 m pc st zh) f k ∧ hiJ (!b) (0 - s1) (0 - c1) w1 w2 m pc st zh' f k = 20000 - (loJ b s1 c1 w1 w2 m pc st zl) f k := by
  have e := fun j (hj : j < k) => turn_tl (b := b) h hz h0 (j := j) (by omega)
  have b0 := h.tbd (a0 := b) (j := 0) h0 (by omega)
  have e0 := e 0 hk
  have l1 := LoM_turn (t := 1152921504606846976) (c := 20000) k (fun j hj => (e j hj).1)
  have l2 := HiM_turn (t := -1152921504606846976) (c := 20000) k (fun j hj => (e j hj).2)
  have f1 := LoM_floor (t := 20000 - 1152921504606846976) (t' := -1152921504606846976) (tl := tlP (!b) (0 - s2) (0 - c2) w1 w2 st pc zl' m f) (by omega) k
  have f2 := HiM_ceil (t := 20000 - -1152921504606846976 - 40000) (t' := 1152921504606846976) (th := thP (!b) (0 - s1) (0 - c1) w1 w2 st pc zh' m f) (by omega) k
  have f3 := HiM_ceil (t := 20000 - -1152921504606846976 - 40000) (t' := 20000 - -1152921504606846976) (th := thP (!b) (0 - s1) (0 - c1) w1 w2 st pc zh' m f) (by omega) k
  have m1 := ((LoM_le (t := -1152921504606846976) (tl := tlP (!b) (0 - s2) (0 - c2) w1 w2 st pc zl' m f) k).1 (Int.le_refl _)).2 0 hk
  have m2 := ((HiM_ge (t := 1152921504606846976) (th := thP (!b) (0 - s1) (0 - c1) w1 w2 st pc zh' m f) k).1 (Int.le_refl _)).2 0 hk
  have m3 := ((HiM_ge (t := 20000 - -1152921504606846976) (th := thP (!b) (0 - s1) (0 - c1) w1 w2 st pc zh' m f) k).1 (Int.le_refl _)).2 0 hk
  unfold loJ hiJ
  omega
theorem turn_can (h : JobOk s1 s2 c1 c2 n w1 w2 m pc st zl zh) (hz : ∀ i, i < m → zl' i = 20000 - zh i ∧ zh' i = 20000 - zl i) {x : Int} (h0 : 0 ≤ f) (h1 : f < x) (h2 : x ≤ PS pc m) : CanP (loJ (!b) (0 - s2) (0 - c2) w1 w2 m pc st zl') (hiJ (!b) (0 - s1) (0 - c1) w1 w2 m pc st zh') f x ↔ CanP (loJ b s1 c1 w1 w2 m pc st zl) (hiJ b s2 c2 w1 w2 m pc st zh) f x := by
  have e := turn_lo (b := b) (f := f) (k := (x - f).toNat) h hz h0 (by omega) (by omega)
  unfold CanP
  rw [e.1, e.2]
  omega
end
end Go.Proofs.Ythagjhadjpangaa.Cx

/- acme/acmelaw07.DieTurned as an automaton. Made by tools/cxauto.py. -/
namespace Go.Proofs.Ythagjhadjpangaa.Cx
set_option linter.unusedVariables false
set_option linter.unusedSimpArgs false
set_option maxRecDepth 100000
open Go Go.Proofs Go.RowKit
noncomputable abbrev dlyCode : Code := funcCode Try.f12
inductive dlyN where
  | n0 (p0 p1 p2 : Nat) (p3 : Int) (p4 : Bool) (p5 p6 p7 p8 : Int) (p9 p10 : Nat) (p11 p12 p13 p14 : Nat → Int) (p15 : Bool) (p16 p17 p18 p19 : Int) (p20 p21 p22 : Nat) (p23 p24 p25 p26 : Nat → Int) (p27 : Nat) (p28 p29 : Nat → Int) (p30 : Nat) (p31 p32 : Nat → Int)
  | n1 (p0 p1 : Nat) (p2 : Int) (p3 : Nat) (p4 p5 : Nat → Int) (p6 : Nat) (p7 p8 : Nat → Int)
abbrev dlyR := Bool
noncomputable def dlyD0 (a0 : Bool) (a1 a2 : Int) (a3 : Nat) (a4 a5 : Nat → Int) (a6 : Nat) (a7 a8 a9 a10 : Nat → Int) (a11 : Nat) (a12 : Nat → Int) (a13 a14 : Int) : DD (Lf dlyN dlyR) :=
 let z0 := decide (0 + a3 ≤ a3)
 let z1 := fun i => [CV.int IntKind.u8 (IE.x (a4 (0 + i))), CV.int IntKind.u8 (IE.x (a5 (0 + i)))]
 let z2 := ShapeOk [some IntKind.u8, some IntKind.u8] (tabOf a3 z1) z1
 let z3 := decide (0 + a6 ≤ a6)
 let z4 := fun i => [CV.int IntKind.u8 (IE.x (a7 (0 + i))), CV.int IntKind.u8 (IE.x (a8 (0 + i))), CV.int IntKind.u8 (IE.x (a9 (0 + i))), CV.int IntKind.u8 (IE.x (a10 (0 + i)))]
 let z5 := ShapeOk [some IntKind.u8, some IntKind.u8, some IntKind.u8, some IntKind.u8] (tabOf a6 z4) z4
 let z6 := decide (0 + a11 ≤ a11)
 let z7 := fun i => [CV.int IntKind.u8 (IE.x (a12 (0 + i)))]
 let z8 := ShapeOk [some IntKind.u8] (tabOf a11 z7) z7
 let z9 := fun i => a4 (0 + i)
 let z10 := fun i => a5 (0 + i)
 let z11 := fun i => a7 (0 + i)
 let z12 := fun i => a8 (0 + i)
 let z13 := fun i => a9 (0 + i)
 let z14 := fun i => a10 (0 + i)
 let z15 := fun i => a12 (0 + i)
 let z16 := dtoA a0 a1 a2 a3 z9 z10 a6 z11 z12 z13 z14 a11 z15
 let z17 := dosA a0 a1 a2 a3 z9 z10 a6 z11 z12 z13 z14 a11 z15
 let z18 := AF.val z16
 let z19 := AF.val z17
 let z20 := dosw0 z19
 let z21 := dtow1 z18
 let z22 := dtow2 z18
 let z23 := dtow3 z18
 let z24 := dtow4 z18
 let z25 := dtow5 z18
 .must z0
   (.must z2
   (.must z3
   (.must z5
   (.must z6
   (.must z8
   (.must (AF.fin z16)
   (.must z0
   (.must z2
   (.must z3
   (.must z5
   (.must z6
   (.must z8
   (.must (AF.fin z17)
   (.must (decide (0 + dtow5 z18 ≤ dtow5 z18))
   (.must (decide (dtow5 z18 ≤ 10000))
   (.must (decide (0 + dosw0 z19 ≤ dosw0 z19))
   (.must (decide (dosw0 z19 ≤ 10000))
   (.leaf (.next (.n0 z20 z20 z20 0 (dtow0 z18) z21 z22 z23 z24 z25 z20 (fun i => dosw1 z19 i) (fun i => dosw2 z19 i) (fun i => dosw3 z19 i) (fun i => dosw4 z19 i) (!dtow0 z18) (Ar.run .sub .i64 0 z22) (Ar.run .sub .i64 0 z21) (Ar.run .sub .i64 0 z24) (Ar.run .sub .i64 0 z23) z25 z25 z20 (fun i => dosw1 z19 (0 + i)) (fun i => dosw2 z19 (0 + i)) (fun i => dosw3 z19 (0 + i)) (fun i => dosw4 z19 (0 + i)) z25 (fun i => dtow6 z18 i) (fun i => dtow7 z18 i) z25 (fun i => dtow6 z18 (0 + i)) (fun i => dtow7 z18 (0 + i))) [4, 7, 6, 14, 13, 5, 11])))))))))))))))))))

noncomputable def dlyD (a0 : Bool) (a1 a2 : Int) (a3 : Nat) (a4 a5 : Nat → Int) (a6 : Nat) (a7 a8 a9 a10 : Nat → Int) (a11 : Nat) (a12 : Nat → Int) (a13 a14 : Int) : dlyN → DD (Lf dlyN dlyR)
 | .n0 p0 p1 p2 p3 p4 p5 p6 p7 p8 p9 p10 p11 p12 p13 p14 p15 p16 p17 p18 p19 p20 p21 p22 p23 p24 p25 p26 p27 p28 p29 p30 p31 p32 =>
 let z0 := decide (0 ≤ p3)
 let z1 := decide (0 + p0 ≤ p10)
 let z2 := fun i => [CV.int IntKind.i64 (IE.x (p11 (0 + i))), CV.int IntKind.i64 (IE.x (p12 (0 + i))), CV.int IntKind.i64 (IE.x (p13 (0 + i))), CV.int IntKind.i64 (IE.x (p14 (0 + i)))]
 let z3 := dalA p0 (fun i => p11 (0 + i)) (fun i => p12 (0 + i)) (fun i => p13 (0 + i)) (fun i => p14 (0 + i))
 let z4 := AF.val z3
 let z5 := Ar.run .rem .i64 (Ar.run .conv .i64 a13 0) z4
 let z6 := Ar.run .sub .i64 z4 z5
 let z7 := decide (0 + p9 ≤ p27)
 let z8 := decide (p9 ≤ 10000)
 let z9 := decide (p0 ≤ 10000)
 let z10 := decide (0 + p9 ≤ p9)
 let z11 := fun i => [CV.int IntKind.i64 (IE.x (p28 (0 + (0 + i)))), CV.int IntKind.i64 (IE.x (p29 (0 + (0 + i))))]
 let z12 := ShapeOk [some IntKind.i64, some IntKind.i64] (tabOf p9 z11) z11
 let z13 := decide (p9 ≤ p9)
 let z14 := decide (0 + p0 ≤ p0)
 let z15 := fun i => [CV.int IntKind.i64 (IE.x (p11 (0 + (0 + i)))), CV.int IntKind.i64 (IE.x (p12 (0 + (0 + i)))), CV.int IntKind.i64 (IE.x (p13 (0 + (0 + i)))), CV.int IntKind.i64 (IE.x (p14 (0 + (0 + i))))]
 let z16 := ShapeOk [some IntKind.i64, some IntKind.i64, some IntKind.i64, some IntKind.i64] (tabOf p0 z15) z15
 let z17 := decide (p0 ≤ p0)
 let z18 := fun i => p28 (0 + (0 + i))
 let z19 := fun i => p29 (0 + (0 + i))
 let z20 := fun i => p11 (0 + (0 + i))
 let z21 := fun i => p12 (0 + (0 + i))
 let z22 := fun i => p13 (0 + (0 + i))
 let z23 := fun i => p14 (0 + (0 + i))
 let z24 := Ar.run .add .i64 (Ar.run .add .i64 z5 1) (Ar.run .rem .i64 (Ar.run .conv .i64 a14 0) z6)
 let z25 := dtaA p4 p5 p6 p7 p8 p9 z18 z19 p0 z20 z21 z22 z23 z5 z24
 let z26 := decide (0 + p20 ≤ p30)
 let z27 := decide (p20 ≤ 10000)
 let z28 := decide (0 + p1 ≤ p22)
 let z29 := decide (p1 ≤ 10000)
 let z30 := decide (0 + p20 ≤ p20)
 let z31 := fun i => [CV.int IntKind.i64 (IE.x (p31 (0 + (0 + i)))), CV.int IntKind.i64 (IE.x (p32 (0 + (0 + i))))]
 let z32 := ShapeOk [some IntKind.i64, some IntKind.i64] (tabOf p20 z31) z31
 let z33 := decide (p20 ≤ p20)
 let z34 := decide (0 + p1 ≤ p1)
 let z35 := fun i => [CV.int IntKind.i64 (IE.x (p23 (0 + (0 + i)))), CV.int IntKind.i64 (IE.x (p24 (0 + (0 + i)))), CV.int IntKind.i64 (IE.x (p25 (0 + (0 + i)))), CV.int IntKind.i64 (IE.x (p26 (0 + (0 + i))))]
 let z36 := ShapeOk [some IntKind.i64, some IntKind.i64, some IntKind.i64, some IntKind.i64] (tabOf p1 z35) z35
 let z37 := decide (p1 ≤ p1)
 let z38 := fun i => p31 (0 + (0 + i))
 let z39 := fun i => p32 (0 + (0 + i))
 let z40 := fun i => p23 (0 + (0 + i))
 let z41 := fun i => p24 (0 + (0 + i))
 let z42 := fun i => p25 (0 + (0 + i))
 let z43 := fun i => p26 (0 + (0 + i))
 let z44 := dtaA p15 p16 p17 p18 p19 p20 z38 z39 p1 z40 z41 z42 z43 z5 z24
 let z45 := AF.val z25
 let z46 := Prod.snd z45
 let z47 := Prod.snd z46
 let z48 := AF.val z44
 let z49 := Prod.snd z48
 let z50 := Cm.run .eql z47 0
 let z51 := Cm.run .eql (Prod.fst z48) (Ar.run .sub .i64 20000 (Prod.fst z46))
 let z52 := Cm.run .eql (Prod.fst z49) (Ar.run .sub .i64 20000 (Prod.fst z45))
 let z53 := draA p4 p5 p6 p7 p8 p9 z18 z19 p0 z20 z21 z22 z23 z5
 let z54 := AF.fin z53
 let z55 := draA p15 p16 p17 p18 p19 p20 z38 z39 p1 z40 z41 z42 z43 z5
 let z56 := AF.fin z55
 let z57 := dplA p4 p5 p6 p7 p8 p9 z18 z19 p0 z20 z21 z22 z23
 let z58 := AF.fin z57
 let z59 := dplA p15 p16 p17 p18 p19 p20 z38 z39 p1 z40 z41 z42 z43
 let z60 := AF.fin z59
 let z61 := dweA p4 p5 p6 p7 p8 p9 z18 z19 p0 z20 z21 z22 z23 z5 z24
 let z62 := AF.fin z61
 let z63 := dweA p15 p16 p17 p18 p19 p20 z38 z39 p1 z40 z41 z42 z43 z5 z24
 let z64 := AF.fin z63
 let z65 := AF.val z53
 let z66 := Cm.run .neq (Prod.snd z65) 0
 let z67 := AF.val z55
 let z68 := Cm.run .neq (Prod.snd z67) 0
 let z69 := AF.val z57
 let z70 := AF.val z59
 let z71 := Cm.run .neq (dplw1 z69) (dplw1 z70)
 let z72 := AF.val z61
 let z73 := Prod.snd z72
 let z74 := Cm.run .neq (Prod.snd z73) 0
 let z75 := AF.val z63
 let z76 := Prod.snd z75
 let z77 := Cm.run .neq (Prod.snd z76) 0
 let z78 := Cm.run .neq (Prod.fst z65) (Prod.fst z67)
 let z79 := dplw0 z69
 let z80 := (↑z79 : Int)
 let z81 := dplw0 z70
 let z82 := (↑z81 : Int)
 let z83 := Cm.run .eql (Prod.fst z72) (Prod.fst z75)
 let z84 := Cm.run .eql (Prod.fst z73) (Prod.fst z76)
 let z85 := fun i => dplw2 z69 i
 let z86 := fun i => dplw3 z69 i
 let z87 := fun i => dplw2 z70 i
 let z88 := fun i => dplw3 z70 i
 .ask (Cm.run .lss p3 (↑p1 : Int))
   (.must z0
   (.must (decide (p3 < (↑p0 : Int)))
   (.must (decide (0 + Int.toNat p3 < p10))
   (.must z0
   (.must (decide (p3 < (↑p1 : Int)))
   (.must (decide (0 + Int.toNat p3 < p22))
   (.leaf (.next (.n0 p0 p1 p2 (Ar.run .add .i64 p3 1) p4 p5 p6 p7 p8 p9 p10 (fun i => p11 i) (fun i => p12 i) (fun i => p13 i) (fun i => p14 i) p15 p16 p17 p18 p19 p20 p21 p22 (fun i => p23 i) (fun i => p24 i) (fun i => bif Nat.beq i (0 + Int.toNat p3) then Ar.run .sub .i64 20000 (p14 (0 + Int.toNat p3)) else p25 i) (fun i => bif Nat.beq i (0 + Int.toNat p3) then Ar.run .sub .i64 20000 (p13 (0 + Int.toNat p3)) else p26 i) p27 (fun i => p28 i) (fun i => p29 i) p30 (fun i => p31 i) (fun i => p32 i)) [3, 4, 5, 6, 7, 8, 9]))))))))
   (.must z1
   (.must (ShapeOk [some IntKind.i64, some IntKind.i64, some IntKind.i64, some IntKind.i64] (tabOf p0 z2) z2)
   (.must (AF.fin z3)
   (.must (Cm.run .neq z4 0)
   (.must (Cm.run .neq z6 0)
   (.must z7
   (.must z8
   (.must z1
   (.must z9
   (.must z10
   (.must z12
   (.must z13
   (.must z14
   (.must z16
   (.must z17
   (.must (AF.fin z25)
   (.must z26
   (.must z27
   (.must z28
   (.must z29
   (.must z30
   (.must z32
   (.must z33
   (.must z34
   (.must z36
   (.must z37
   (.must (AF.fin z44)
   (.ask (Cm.run .neq z47 (Prod.snd z49))
   (.leaf (.done false []))
   (.ask (Cm.run .neq z47 0)
   (.ask (Cm.run .neq z47 9)
   (.leaf (.done false []))
   (.ask z50
   (.ask z51
   (.ask z52
   (.must z7
   (.must z8
   (.must z1
   (.must z9
   (.must z10
   (.must z12
   (.must z13
   (.must z14
   (.must z16
   (.must z17
   (.must z54
   (.must z26
   (.must z27
   (.must z28
   (.must z29
   (.must z30
   (.must z32
   (.must z33
   (.must z34
   (.must z36
   (.must z37
   (.must z56
   (.must z7
   (.must z8
   (.must z1
   (.must z9
   (.must z10
   (.must z12
   (.must z13
   (.must z14
   (.must z16
   (.must z17
   (.must z58
   (.must z26
   (.must z27
   (.must z28
   (.must z29
   (.must z30
   (.must z32
   (.must z33
   (.must z34
   (.must z36
   (.must z37
   (.must z60
   (.must z7
   (.must z8
   (.must z1
   (.must z9
   (.must z10
   (.must z12
   (.must z13
   (.must z14
   (.must z16
   (.must z17
   (.must z62
   (.must z26
   (.must z27
   (.must z28
   (.must z29
   (.must z30
   (.must z32
   (.must z33
   (.must z34
   (.must z36
   (.must z37
   (.must z64
   (.ask z66
   (.leaf (.done false []))
   (.ask z68
   (.leaf (.done false []))
   (.ask z71
   (.leaf (.done false []))
   (.ask z74
   (.leaf (.done false []))
   (.ask z77
   (.leaf (.done false []))
   (.ask z78
   (.leaf (.done false []))
   (.ask (Cm.run .neq z80 z82)
   (.leaf (.done false []))
   (.ask z83
   (.ask z84
   (.leaf (.next (.n1 z79 z81 0 z79 z85 z86 z81 z87 z88) [45, 52]))
   (.leaf (.done false [])))
   (.leaf (.done false []))))))))))))))))))))))))))))))))))))))))))))))))))))))))))))))))))))))))))))
   (.leaf (.done false [])))
   (.leaf (.done false [])))
   (.must z7
   (.must z8
   (.must z1
   (.must z9
   (.must z10
   (.must z12
   (.must z13
   (.must z14
   (.must z16
   (.must z17
   (.must z54
   (.must z26
   (.must z27
   (.must z28
   (.must z29
   (.must z30
   (.must z32
   (.must z33
   (.must z34
   (.must z36
   (.must z37
   (.must z56
   (.must z7
   (.must z8
   (.must z1
   (.must z9
   (.must z10
   (.must z12
   (.must z13
   (.must z14
   (.must z16
   (.must z17
   (.must z58
   (.must z26
   (.must z27
   (.must z28
   (.must z29
   (.must z30
   (.must z32
   (.must z33
   (.must z34
   (.must z36
   (.must z37
   (.must z60
   (.must z7
   (.must z8
   (.must z1
   (.must z9
   (.must z10
   (.must z12
   (.must z13
   (.must z14
   (.must z16
   (.must z17
   (.must z62
   (.must z26
   (.must z27
   (.must z28
   (.must z29
   (.must z30
   (.must z32
   (.must z33
   (.must z34
   (.must z36
   (.must z37
   (.must z64
   (.ask z66
   (.leaf (.done false []))
   (.ask z68
   (.leaf (.done false []))
   (.ask z71
   (.leaf (.done false []))
   (.ask z74
   (.leaf (.done false []))
   (.ask z77
   (.leaf (.done false []))
   (.ask z78
   (.leaf (.done false []))
   (.ask (Cm.run .neq z80 z82)
   (.leaf (.done false []))
   (.ask z83
   (.ask z84
   (.leaf (.next (.n1 z79 z81 0 z79 z85 z86 z81 z87 z88) [42, 49]))
   (.leaf (.done false [])))
   (.leaf (.done false []))))))))))))))))))))))))))))))))))))))))))))))))))))))))))))))))))))))))))))))
   (.ask z50
   (.ask z51
   (.ask z52
   (.must z7
   (.must z8
   (.must z1
   (.must z9
   (.must z10
   (.must z12
   (.must z13
   (.must z14
   (.must z16
   (.must z17
   (.must z54
   (.must z26
   (.must z27
   (.must z28
   (.must z29
   (.must z30
   (.must z32
   (.must z33
   (.must z34
   (.must z36
   (.must z37
   (.must z56
   (.must z7
   (.must z8
   (.must z1
   (.must z9
   (.must z10
   (.must z12
   (.must z13
   (.must z14
   (.must z16
   (.must z17
   (.must z58
   (.must z26
   (.must z27
   (.must z28
   (.must z29
   (.must z30
   (.must z32
   (.must z33
   (.must z34
   (.must z36
   (.must z37
   (.must z60
   (.must z7
   (.must z8
   (.must z1
   (.must z9
   (.must z10
   (.must z12
   (.must z13
   (.must z14
   (.must z16
   (.must z17
   (.must z62
   (.must z26
   (.must z27
   (.must z28
   (.must z29
   (.must z30
   (.must z32
   (.must z33
   (.must z34
   (.must z36
   (.must z37
   (.must z64
   (.ask z66
   (.leaf (.done false []))
   (.ask z68
   (.leaf (.done false []))
   (.ask z71
   (.leaf (.done false []))
   (.ask z74
   (.leaf (.done false []))
   (.ask z77
   (.leaf (.done false []))
   (.ask z78
   (.leaf (.done false []))
   (.ask (Cm.run .neq z80 z82)
   (.leaf (.done false []))
   (.ask z83
   (.ask z84
   (.leaf (.next (.n1 z79 z81 0 z79 z85 z86 z81 z87 z88) [45, 52]))
   (.leaf (.done false [])))
   (.leaf (.done false []))))))))))))))))))))))))))))))))))))))))))))))))))))))))))))))))))))))))))))
   (.leaf (.done false [])))
   (.leaf (.done false [])))
   (.must z7
   (.must z8
   (.must z1
   (.must z9
   (.must z10
   (.must z12
   (.must z13
   (.must z14
   (.must z16
   (.must z17
   (.must z54
   (.must z26
   (.must z27
   (.must z28
   (.must z29
   (.must z30
   (.must z32
   (.must z33
   (.must z34
   (.must z36
   (.must z37
   (.must z56
   (.must z7
   (.must z8
   (.must z1
   (.must z9
   (.must z10
   (.must z12
   (.must z13
   (.must z14
   (.must z16
   (.must z17
   (.must z58
   (.must z26
   (.must z27
   (.must z28
   (.must z29
   (.must z30
   (.must z32
   (.must z33
   (.must z34
   (.must z36
   (.must z37
   (.must z60
   (.must z7
   (.must z8
   (.must z1
   (.must z9
   (.must z10
   (.must z12
   (.must z13
   (.must z14
   (.must z16
   (.must z17
   (.must z62
   (.must z26
   (.must z27
   (.must z28
   (.must z29
   (.must z30
   (.must z32
   (.must z33
   (.must z34
   (.must z36
   (.must z37
   (.must z64
   (.ask z66
   (.leaf (.done false []))
   (.ask z68
   (.leaf (.done false []))
   (.ask z71
   (.leaf (.done false []))
   (.ask z74
   (.leaf (.done false []))
   (.ask z77
   (.leaf (.done false []))
   (.ask z78
   (.leaf (.done false []))
   (.ask (Cm.run .neq z80 z82)
   (.leaf (.done false []))
   (.ask z83
   (.ask z84
   (.leaf (.next (.n1 z79 z81 0 z79 z85 z86 z81 z87 z88) [42, 49]))
   (.leaf (.done false [])))
   (.leaf (.done false []))))))))))))))))))))))))))))))))))))))))))))))))))))))))))))))))))))))))))))))))))))))))))))))))))))))))))
 | .n1 p0 p1 p2 p3 p4 p5 p6 p7 p8 =>
 let z0 := decide (0 ≤ p2)
 .ask (Cm.run .lss p2 (↑p0 : Int))
   (.must z0
   (.must (decide (p2 < (↑p0 : Int)))
   (.must (decide (0 + Int.toNat p2 < p3))
   (.must z0
   (.must (decide (p2 < (↑p1 : Int)))
   (.must (decide (0 + Int.toNat p2 < p6))
   (.ask (Cm.run .neq (p4 (0 + Int.toNat p2)) (p7 (0 + Int.toNat p2)))
   (.leaf (.done false []))
   (.leaf (.next (.n1 p0 p1 (Ar.run .add .i64 p2 1) p3 (fun i => p4 i) (fun i => p5 i) p6 (fun i => p7 i) (fun i => p8 i)) [3, 4])))))))))
   (.leaf (.done true []))

noncomputable def dlyA (a0 : Bool) (a1 a2 : Int) (a3 : Nat) (a4 a5 : Nat → Int) (a6 : Nat) (a7 a8 a9 a10 : Nat → Int) (a11 : Nat) (a12 : Nat → Int) (a13 a14 : Int) : AF dlyN dlyR where
  code := dlyCode
  base := 3
  nt := 237
  m := 400
  un := []
  W := []
  h0 := [(0, ⟨.arg a3 2 (fun i => [.int .u8 (.x (a4 i)), .int .u8 (.x (a5 i))]) (fun _ => ⟨rfl, rfl⟩), 2, true, none⟩), (1, ⟨.arg a6 4 (fun i => [.int .u8 (.x (a7 i)), .int .u8 (.x (a8 i)), .int .u8 (.x (a9 i)), .int .u8 (.x (a10 i))]) (fun _ => ⟨rfl, rfl⟩), 4, true, none⟩), (2, ⟨.arg a11 1 (fun i => [.int .u8 (.x (a12 i))]) (fun _ => ⟨rfl, rfl⟩), 1, true, none⟩)]
  args := [.agg [.bool (.x a0), .int .u8 (.x a1), .int .u8 (.x a2), .sla 0 2 0 a3, .sla 1 4 0 a6, .sla 2 1 0 a11], .agg [.int .u8 (.x a13), .int .u8 (.x a14)]]
  res := (Try.f12).results.toList
  path := fun a => match a with
   | .n0 p0 p1 p2 p3 p4 p5 p6 p7 p8 p9 p10 p11 p12 p13 p14 p15 p16 p17 p18 p19 p20 p21 p22 p23 p24 p25 p26 p27 p28 p29 p30 p31 p32 => [1, 1, 1, 1, 1, 0, 1, 0]
   | .n1 p0 p1 p2 p3 p4 p5 p6 p7 p8 => [1, 1, 1, 1, 1, 1, 1, 1, 1, 1, 1, 1, 1, 1, 1, 1, 1, 1, 1, 0, 1, 0]
  pd := fun a => match a with
   | .n0 p0 p1 p2 p3 p4 p5 p6 p7 p8 p9 p10 p11 p12 p13 p14 p15 p16 p17 p18 p19 p20 p21 p22 p23 p24 p25 p26 p27 p28 p29 p30 p31 p32 => ⟨[(3, .ptr (some (3, 0))), (5, .fn (.func 56) [] []), (6, .ptr (some (4, 0))), (7, .sla 5 4 0 p0), (8, .ptr (some (6, 0))), (9, .slx 7 4 0 p1 p2), (10, .int .i64 (.x p3))], [(3, ⟨.lit [.int .u8 (.x a13), .int .u8 (.x a14)], 0, true, none⟩), (4, ⟨.lit [.bool (.x p4), .int .i64 (.x p5), .int .i64 (.x p6), .int .i64 (.x p7), .int .i64 (.x p8), .sla 8 2 0 p9], 0, true, none⟩), (5, ⟨.rows p10 4 (fun i => [.int .i64 (.x (p11 i)), .int .i64 (.x (p12 i)), .int .i64 (.x (p13 i)), .int .i64 (.x (p14 i))]) (fun _ => ⟨rfl, rfl⟩), 4, true, none⟩), (6, ⟨.lit [.bool (.x p15), .int .i64 (.x p16), .int .i64 (.x p17), .int .i64 (.x p18), .int .i64 (.x p19), .slx 9 2 0 p20 p21], 0, true, none⟩), (7, ⟨.rows p22 4 (fun i => [.int .i64 (.x (p23 i)), .int .i64 (.x (p24 i)), .int .i64 (.x (p25 i)), .int .i64 (.x (p26 i))]) (fun _ => ⟨rfl, rfl⟩), 4, true, none⟩), (8, ⟨.rows p27 2 (fun i => [.int .i64 (.x (p28 i)), .int .i64 (.x (p29 i))]) (fun _ => ⟨rfl, rfl⟩), 2, true, none⟩), (9, ⟨.rows p30 2 (fun i => [.int .i64 (.x (p31 i)), .int .i64 (.x (p32 i))]) (fun _ => ⟨rfl, rfl⟩), 2, true, none⟩)], 10, []⟩
   | .n1 p0 p1 p2 p3 p4 p5 p6 p7 p8 => ⟨[(22, .sla 3 2 0 p0), (24, .sla 4 2 0 p1), (30, .int .i64 (.x p2))], [(3, ⟨.rows p3 2 (fun i => [.int .i64 (.x (p4 i)), .int .i64 (.x (p5 i))]) (fun _ => ⟨rfl, rfl⟩), 2, true, none⟩), (4, ⟨.rows p6 2 (fun i => [.int .i64 (.x (p7 i)), .int .i64 (.x (p8 i))]) (fun _ => ⟨rfl, rfl⟩), 2, true, none⟩)], 5, []⟩
  D0 := dlyD0 a0 a1 a2 a3 a4 a5 a6 a7 a8 a9 a10 a11 a12 a13 a14
  D := dlyD a0 a1 a2 a3 a4 a5 a6 a7 a8 a9 a10 a11 a12 a13 a14
  rc := (fun v => .bool (.x v))
  rh := (fun v => [])
  rn := (fun v => 3)
  rx := (fun v => [])
  rgo := (fun _ => none)
theorem dlystart (a0 : Bool) (a1 a2 : Int) (a3 : Nat) (a4 a5 : Nat → Int) (a6 : Nat) (a7 a8 a9 a10 : Nat → Int) (a11 : Nat) (a12 : Nat → Int) (a13 a14 : Int) : AF.edgeOk (dlyA a0 a1 a2 a3 a4 a5 a6 a7 a8 a9 a10 a11 a12 a13 a14) (ctxOf Try.prog memo0) (dlyD0 a0 a1 a2 a3 a4 a5 a6 a7 a8 a9 a10 a11 a12 a13 a14) (AF.run0 (dlyA a0 a1 a2 a3 a4 a5 a6 a7 a8 a9 a10 a11 a12 a13 a14) (ctxOf Try.prog (memoS 18 dweP dweF dweW dweH 2 (memoS 26 dplP dplF dplW dplH 3 (memoS 25 draP draF draW draH 2 (memoS 19 dtaP dtaF dtaW dtaH 2 (memoS 48 dtoP dtoF dtoW dtoH 4 (memoS 49 dosP dosF dosW dosH 4 (memoS 50 dalP dalF dalW dalH 1 (memoB [14])))))))))) := by unfold AF.edgeOk; kernel_rfl
theorem dlynode0 (a0 : Bool) (a1 a2 : Int) (a3 : Nat) (a4 a5 : Nat → Int) (a6 : Nat) (a7 a8 a9 a10 : Nat → Int) (a11 : Nat) (a12 : Nat → Int) (a13 a14 : Int) (p0 p1 p2 : Nat) (p3 : Int) (p4 : Bool) (p5 p6 p7 p8 : Int) (p9 p10 : Nat) (p11 p12 p13 p14 : Nat → Int) (p15 : Bool) (p16 p17 p18 p19 : Int) (p20 p21 p22 : Nat) (p23 p24 p25 p26 : Nat → Int) (p27 : Nat) (p28 p29 : Nat → Int) (p30 : Nat) (p31 p32 : Nat → Int) : AF.edgeOk (dlyA a0 a1 a2 a3 a4 a5 a6 a7 a8 a9 a10 a11 a12 a13 a14) (ctxOf Try.prog memo0) (dlyD a0 a1 a2 a3 a4 a5 a6 a7 a8 a9 a10 a11 a12 a13 a14 (.n0 p0 p1 p2 p3 p4 p5 p6 p7 p8 p9 p10 p11 p12 p13 p14 p15 p16 p17 p18 p19 p20 p21 p22 p23 p24 p25 p26 p27 p28 p29 p30 p31 p32)) (AF.runN (dlyA a0 a1 a2 a3 a4 a5 a6 a7 a8 a9 a10 a11 a12 a13 a14) (ctxOf Try.prog (memoS 18 dweP dweF dweW dweH 2 (memoS 26 dplP dplF dplW dplH 3 (memoS 25 draP draF draW draH 2 (memoS 19 dtaP dtaF dtaW dtaH 2 (memoS 48 dtoP dtoF dtoW dtoH 4 (memoS 49 dosP dosF dosW dosH 4 (memoS 50 dalP dalF dalW dalH 1 (memoB [14]))))))))) (.n0 p0 p1 p2 p3 p4 p5 p6 p7 p8 p9 p10 p11 p12 p13 p14 p15 p16 p17 p18 p19 p20 p21 p22 p23 p24 p25 p26 p27 p28 p29 p30 p31 p32)) := by unfold AF.edgeOk; kernel_rfl
theorem dlynode1 (a0 : Bool) (a1 a2 : Int) (a3 : Nat) (a4 a5 : Nat → Int) (a6 : Nat) (a7 a8 a9 a10 : Nat → Int) (a11 : Nat) (a12 : Nat → Int) (a13 a14 : Int) (p0 p1 : Nat) (p2 : Int) (p3 : Nat) (p4 p5 : Nat → Int) (p6 : Nat) (p7 p8 : Nat → Int) : AF.edgeOk (dlyA a0 a1 a2 a3 a4 a5 a6 a7 a8 a9 a10 a11 a12 a13 a14) (ctxOf Try.prog memo0) (dlyD a0 a1 a2 a3 a4 a5 a6 a7 a8 a9 a10 a11 a12 a13 a14 (.n1 p0 p1 p2 p3 p4 p5 p6 p7 p8)) (AF.runN (dlyA a0 a1 a2 a3 a4 a5 a6 a7 a8 a9 a10 a11 a12 a13 a14) (ctxOf Try.prog (memoS 18 dweP dweF dweW dweH 2 (memoS 26 dplP dplF dplW dplH 3 (memoS 25 draP draF draW draH 2 (memoS 19 dtaP dtaF dtaW dtaH 2 (memoS 48 dtoP dtoF dtoW dtoH 4 (memoS 49 dosP dosF dosW dosH 4 (memoS 50 dalP dalF dalW dalH 1 (memoB [14]))))))))) (.n1 p0 p1 p2 p3 p4 p5 p6 p7 p8)) := by unfold AF.edgeOk; kernel_rfl
theorem dlyok (a0 : Bool) (a1 a2 : Int) (a3 : Nat) (a4 a5 : Nat → Int) (a6 : Nat) (a7 a8 a9 a10 : Nat → Int) (a11 : Nat) (a12 : Nat → Int) (a13 a14 : Int) : (dlyA a0 a1 a2 a3 a4 a5 a6 a7 a8 a9 a10 a11 a12 a13 a14).Ok Try.prog (ctxOf Try.prog (memoS 18 dweP dweF dweW dweH 2 (memoS 26 dplP dplF dplW dplH 3 (memoS 25 draP draF draW draH 2 (memoS 19 dtaP dtaF dtaW dtaH 2 (memoS 48 dtoP dtoF dtoW dtoH 4 (memoS 49 dosP dosF dosW dosH 4 (memoS 50 dalP dalF dalW dalH 1 (memoB [14]))))))))) where
  regs := by kernel_rfl
  h0 := by kernel_rfl
  start := dlystart a0 a1 a2 a3 a4 a5 a6 a7 a8 a9 a10 a11 a12 a13 a14
  node := fun a _ => match a with
   | .n0 p0 p1 p2 p3 p4 p5 p6 p7 p8 p9 p10 p11 p12 p13 p14 p15 p16 p17 p18 p19 p20 p21 p22 p23 p24 p25 p26 p27 p28 p29 p30 p31 p32 => dlynode0 a0 a1 a2 a3 a4 a5 a6 a7 a8 a9 a10 a11 a12 a13 a14 p0 p1 p2 p3 p4 p5 p6 p7 p8 p9 p10 p11 p12 p13 p14 p15 p16 p17 p18 p19 p20 p21 p22 p23 p24 p25 p26 p27 p28 p29 p30 p31 p32
   | .n1 p0 p1 p2 p3 p4 p5 p6 p7 p8 => dlynode1 a0 a1 a2 a3 a4 a5 a6 a7 a8 a9 a10 a11 a12 a13 a14 p0 p1 p2 p3 p4 p5 p6 p7 p8
  pd := fun a => match a with
   | .n0 p0 p1 p2 p3 p4 p5 p6 p7 p8 p9 p10 p11 p12 p13 p14 p15 p16 p17 p18 p19 p20 p21 p22 p23 p24 p25 p26 p27 p28 p29 p30 p31 p32 => ⟨(fa_cons rfl (fa_cons rfl (fa_cons rfl (fa_cons rfl (fa_cons rfl (fa_cons rfl (fa_cons rfl fa_nil))))))), (fa_cons ⟨.inl (Nat.le_of_ble_eq_true rfl), rfl, rfl⟩ (fa_cons ⟨.inl (Nat.le_of_ble_eq_true rfl), rfl, rfl⟩ (fa_cons ⟨.inl (Nat.le_of_ble_eq_true rfl), (fun _ => rfl), rfl⟩ (fa_cons ⟨.inl (Nat.le_of_ble_eq_true rfl), rfl, rfl⟩ (fa_cons ⟨.inl (Nat.le_of_ble_eq_true rfl), (fun _ => rfl), rfl⟩ (fa_cons ⟨.inl (Nat.le_of_ble_eq_true rfl), (fun _ => rfl), rfl⟩ (fa_cons ⟨.inl (Nat.le_of_ble_eq_true rfl), (fun _ => rfl), rfl⟩ fa_nil))))))), fa_nil, rfl⟩
   | .n1 p0 p1 p2 p3 p4 p5 p6 p7 p8 => ⟨(fa_cons rfl (fa_cons rfl (fa_cons rfl fa_nil))), (fa_cons ⟨.inl (Nat.le_of_ble_eq_true rfl), (fun _ => rfl), rfl⟩ (fa_cons ⟨.inl (Nat.le_of_ble_eq_true rfl), (fun _ => rfl), rfl⟩ fa_nil)), fa_nil, rfl⟩
  le := fun a => match a with
   | .n0 p0 p1 p2 p3 p4 p5 p6 p7 p8 p9 p10 p11 p12 p13 p14 p15 p16 p17 p18 p19 p20 p21 p22 p23 p24 p25 p26 p27 p28 p29 p30 p31 p32 => Nat.le_of_ble_eq_true rfl
   | .n1 p0 p1 p2 p3 p4 p5 p6 p7 p8 => Nat.le_of_ble_eq_true rfl
  rd := fun v => ⟨⟨fa_nil, fa_nil, fa_nil, rfl⟩, rfl⟩
  wb := rfl
theorem dlyhR {ρ : Env} (a0 : Bool) (a1 a2 : Int) (a3 : Nat) (a4 a5 : Nat → Int) (a6 : Nat) (a7 a8 a9 a10 : Nat → Int) (a11 : Nat) (a12 : Nat → Int) (a13 a14 : Int) (hM : MemoOk Try.prog (ctxOf Try.prog (memoS 18 dweP dweF dweW dweH 2 (memoS 26 dplP dplF dplW dplH 3 (memoS 25 draP draF draW draH 2 (memoS 19 dtaP dtaF dtaW dtaH 2 (memoS 48 dtoP dtoF dtoW dtoH 4 (memoS 49 dosP dosF dosW dosH 4 (memoS 50 dalP dalF dalW dalH 1 (memoB [14]))))))))) ρ) : ∀ X a q n D, FxOk ρ X → X.base = (dlyA a0 a1 a2 a3 a4 a5 a6 a7 a8 a9 a10 a11 a12 a13 a14).base → X.nt = (dlyA a0 a1 a2 a3 a4 a5 a6 a7 a8 a9 a10 a11 a12 a13 a14).nt → X.W = (dlyA a0 a1 a2 a3 a4 a5 a6 a7 a8 a9 a10 a11 a12 a13 a14).W → (dlyA a0 a1 a2 a3 a4 a5 a6 a7 a8 a9 a10 a11 a12 a13 a14).rgo a = some q → q n = some D → (dlyA a0 a1 a2 a3 a4 a5 a6 a7 a8 a9 a10 a11 a12 a13 a14).RangeOk Try.prog ρ X a D := AF.noRange rfl
theorem dlyctr {ρ : Env} (a0 : Bool) (a1 a2 : Int) (a3 : Nat) (a4 a5 : Nat → Int) (a6 : Nat) (a7 a8 a9 a10 : Nat → Int) (a11 : Nat) (a12 : Nat → Int) (a13 a14 : Int) {n : Nat} {v : dlyR} (hM : MemoOk Try.prog (ctxOf Try.prog (memoS 18 dweP dweF dweW dweH 2 (memoS 26 dplP dplF dplW dplH 3 (memoS 25 draP draF draW draH 2 (memoS 19 dtaP dtaF dtaW dtaH 2 (memoS 48 dtoP dtoF dtoW dtoH 4 (memoS 49 dosP dosF dosW dosH 4 (memoS 50 dalP dalF dalW dalH 1 (memoB [14]))))))))) ρ) (hv : (dlyA a0 a1 a2 a3 a4 a5 a6 a7 a8 a9 a10 a11 a12 a13 a14).run n = some v) :
    Ctr Try.prog ρ 12 (dlyA a0 a1 a2 a3 a4 a5 a6 a7 a8 a9 a10 a11 a12 a13 a14).args (dlyA a0 a1 a2 a3 a4 a5 a6 a7 a8 a9 a10 a11 a12 a13 a14).H0 (dlyA a0 a1 a2 a3 a4 a5 a6 a7 a8 a9 a10 a11 a12 a13 a14).base (dlyA a0 a1 a2 a3 a4 a5 a6 a7 a8 a9 a10 a11 a12 a13 a14).W ((dlyA a0 a1 a2 a3 a4 a5 a6 a7 a8 a9 a10 a11 a12 a13 a14).rc v) (putH (dlyA a0 a1 a2 a3 a4 a5 a6 a7 a8 a9 a10 a11 a12 a13 a14).H0 ((dlyA a0 a1 a2 a3 a4 a5 a6 a7 a8 a9 a10 a11 a12 a13 a14).rh v ++ (dlyA a0 a1 a2 a3 a4 a5 a6 a7 a8 a9 a10 a11 a12 a13 a14).rx v)) ((dlyA a0 a1 a2 a3 a4 a5 a6 a7 a8 a9 a10 a11 a12 a13 a14).rn v) :=
  AF.ctr try_ok hM (dlyok a0 a1 a2 a3 a4 a5 a6 a7 a8 a9 a10 a11 a12 a13 a14) (fn := Try.f12) Try.func12 rfl rfl (Nat.le_of_ble_eq_true rfl) rfl (dlyhR a0 a1 a2 a3 a4 a5 a6 a7 a8 a9 a10 a11 a12 a13 a14 hM) hv
theorem dlymem {ρ : Env} : MemoOk Try.prog (ctxOf Try.prog (memoS 18 dweP dweF dweW dweH 2 (memoS 26 dplP dplF dplW dplH 3 (memoS 25 draP draF draW draH 2 (memoS 19 dtaP dtaF dtaW dtaH 2 (memoS 48 dtoP dtoF dtoW dtoH 4 (memoS 49 dosP dosF dosW dosH 4 (memoS 50 dalP dalF dalW dalH 1 (memoB [14]))))))))) ρ := (memoS_ok (dweknown dwemem) (memoS_ok (dplknown dplmem) (memoS_ok (draknown dramem) (memoS_ok (dtaknown dtamem) (memoS_ok (dtoknown dtomem) (memoS_ok (dosknown dosmem) (memoS_ok (dalknown dalmem) (memoB_ok (fun f hf => by
    simp only [List.mem_cons, List.not_mem_nil, or_false] at hf
    subst hf
    exact CxKn07_known)))))))))
instance : Inhabited dlyR := ⟨false⟩
end Go.Proofs.Ythagjhadjpangaa.Cx

/- DieTurned: the law's run. -/
namespace Go.Proofs.Ythagjhadjpangaa.Cx
set_option linter.unusedVariables false
set_option linter.unusedSimpArgs false
set_option maxRecDepth 100000
set_option maxHeartbeats 4000000
open Go Go.RowKit
structure TurJ (b : Bool) (s1 s2 c1 c2 : Int) (n : Nat) (w1 w2 : Nat → Int) (m : Nat) (pc st zl zh : Nat → Int) : Prop where
  ck : CkS n m (ToolOk n w1 w2 s1 s2 c1 c2) pc st zl zh 0
  job : JobOk s1 s2 c1 c2 n w1 w2 m pc st zl zh
  pos : 0 < PS pc m
  few : PS pc m ≤ 150
  zone : ∀ i, i < m → zh i ≤ 20000
def TurI : dlyN → Prop
  | .n0 p0 p1 p2 p3 b s1 s2 c1 c2 n m pc st zl zh b' t1 t2 d1 d2 n2 n3 m3 pc' st' zl' zh' n4 w1 w2 n5 w1' w2' =>
    TurJ b s1 s2 c1 c2 n w1 w2 m pc st zl zh ∧ (p0 = m ∧ p1 = m ∧ p2 = m ∧ n2 = n ∧ n3 = n ∧ m3 = m ∧ n4 = n ∧ n5 = n) ∧ (b' = !b ∧ t1 = 0 - s2 ∧ t2 = 0 - s1 ∧ d1 = 0 - c2 ∧ d2 = 0 - c1 ∧ pc' = pc ∧ st' = st ∧ w1' = w1 ∧ w2' = w2) ∧ 0 ≤ p3 ∧ p3 ≤ m ∧
    ∀ j : Nat, j < m → (zl' j = if (j : Int) < p3 then 20000 - zh j else zl j) ∧ (zh' j = if (j : Int) < p3 then 20000 - zl j else zh j)
  | .n1 k k2 i k3 F G k4 F' G' => (k2 = k ∧ k3 = k ∧ k4 = k ∧ k ≤ 10000) ∧ 0 ≤ i ∧ i ≤ k ∧ ∀ j, j < k → F j = F' j
def dlyM : dlyN → Nat
  | .n0 p0 p1 p2 p3 b s1 s2 c1 c2 n m pc st zl zh b' t1 t2 d1 d2 n2 n3 m3 pc' st' zl' zh' n4 w1 w2 n5 w1' w2' => 100000 + (m - p3).toNat
  | .n1 k k2 i k3 F G k4 F' G' => (k - i).toNat
theorem dly_sat (a0 : Bool) (a1 a2 : Int) (a3 : Nat) (a4 a5 : Nat → Int) (a6 : Nat) (a7 a8 a9 a10 : Nat → Int) (a11 : Nat) (a12 : Nat → Int) (a13 a14 : Int) (h1 : 0 ≤ a1 ∧ a1 ≤ 255) (h2 : 0 ≤ a2 ∧ a2 ≤ 255) (h4 : ∀ i, 0 ≤ a4 i ∧ a4 i ≤ 255) (h5 : ∀ i, 0 ≤ a5 i ∧ a5 i ≤ 255) (h7 : ∀ i, 0 ≤ a7 i ∧ a7 i ≤ 255) (h8 : ∀ i, 0 ≤ a8 i ∧ a8 i ≤ 255) (h9 : ∀ i, 0 ≤ a9 i ∧ a9 i ≤ 255) (h10 : ∀ i, 0 ≤ a10 i ∧ a10 i ≤ 255) : DD.sat TurI (fun v => v = true) (dlyD0 a0 a1 a2 a3 a4 a5 a6 a7 a8 a9 a10 a11 a12 a13 a14) := by
  obtain ⟨of, b, s1, s2, c1, c2, n, w1, w2, tv, tok, ook⟩ := dos_val (a0 := a0) (a3 := a3) (a6 := a6) (a11 := a11) (a12 := a12) h1 h2 h4 h5 h7 h8 h9 h10
  have tf := (dto_val (a0 := a0) (a3 := a3) (a6 := a6) (a7 := a7) (a8 := a8) (a9 := a9) (a10 := a10) (a11 := a11) (a12 := a12) h1 h2 h4 h5).1
  cases hO : AF.val (dosA a0 a1 a2 a3 a4 a5 a6 a7 a8 a9 a10 a11 a12) with
  | r0 => rw [hO] at ook; exact ook.elim
  | r1 m pc st zl zh =>
    rw [hO] at ook
    obtain ⟨hC, job, q1, q2⟩ := made_ok tok ook
    have tvE : AF.val (dtoA a0 a1 a2 a3 (fun i => a4 i) (fun i => a5 i) a6 (fun i => a7 i) (fun i => a8 i) (fun i => a9 i) (fun i => a10 i) a11 (fun i => a12 i)) = _ := tv
    have ovE : AF.val (dosA a0 a1 a2 a3 (fun i => a4 i) (fun i => a5 i) a6 (fun i => a7 i) (fun i => a8 i) (fun i => a9 i) (fun i => a10 i) a11 (fun i => a12 i)) = _ := hO
    have tn := tok.2.2.2.2.1
    have om := ook.1
    obtain ⟨_, _, t2, t3⟩ := job.tool
    unfold VOk at t2 t3
    have x1 : Ar.run .sub .i64 0 s1 = 0 - s1 := arSub (by omega)
    have x2 : Ar.run .sub .i64 0 s2 = 0 - s2 := arSub (by omega)
    have x3 : Ar.run .sub .i64 0 c1 = 0 - c1 := arSub (by omega)
    have x4 : Ar.run .sub .i64 0 c2 = 0 - c2 := arSub (by omega)
    have hI : TurI (.n0 m m m 0 b s1 s2 c1 c2 n m pc st zl zh (!b) (0 - s2) (0 - s1) (0 - c2) (0 - c1) n n m pc st zl zh n w1 w2 n w1 w2) := ⟨⟨hC, job, q1, q2, fun i hi => by
      have := ook.2 i hi
      unfold OrRow at this
      omega⟩, ⟨rfl, rfl, rfl, rfl, rfl, rfl, rfl, rfl⟩, ⟨rfl, rfl, rfl, rfl, rfl, rfl, rfl, rfl, rfl⟩, Int.le_refl _, by omega, fun j hj => by
        rw [if_neg (by omega), if_neg (by omega)]; exact ⟨rfl, rfl⟩⟩
    unfold dlyD0
    simp only [DD.sat, Nat.zero_add, cmLss, cmLssF, cmLeq, cmLeqF, cmGtr, cmGtrF, cmGeq, cmGeqF, cmEql, cmEqlF, cmNeq, cmNeqF, decide_eq_true_eq, Bool.not_eq_true', Bool.not_eq_false', tvE, ovE, x1, x2, x3, x4, dtow0, dtow1, dtow2, dtow3, dtow4, dtow5, dtow6, dtow7, dosw0, dosw1, dosw2, dosw3, dosw4]
    repeat' (first
      | exact Nat.le_refl _
      | exact shape_ok fun i _ => rfl
      | assumption
      | trivial
      | (intro hx; first | (exfalso; omega) | skip)
      | apply And.intro
      | omega)
theorem dly_loop (a0 : Bool) (a1 a2 : Int) (a3 : Nat) (a4 a5 : Nat → Int) (a6 : Nat) (a7 a8 a9 a10 : Nat → Int) (a11 : Nat) (a12 : Nat → Int) (a13 a14 : Int) {b : Bool} {s1 s2 c1 c2 : Int} {n : Nat} {w1 w2 : Nat → Int} {m : Nat} {pc st zl zh : Nat → Int} {i : Int} {zl' zh' : Nat → Int} (h : TurJ b s1 s2 c1 c2 n w1 w2 m pc st zl zh) (g0 : 0 ≤ i) (g1 : i < m) (hz : ∀ j : Nat, j < m → (zl' j = if (j : Int) < i then 20000 - zh j else zl j) ∧ (zh' j = if (j : Int) < i then 20000 - zl j else zh j)) :
    DD.sat (fun x => TurI x ∧ dlyM x < dlyM (.n0 m m m i b s1 s2 c1 c2 n m pc st zl zh (!b) (0 - s2) (0 - s1) (0 - c2) (0 - c1) n n m pc st zl' zh' n w1 w2 n w1 w2)) (fun v => v = true) (dlyD a0 a1 a2 a3 a4 a5 a6 a7 a8 a9 a10 a11 a12 a13 a14 (.n0 m m m i b s1 s2 c1 c2 n m pc st zl zh (!b) (0 - s2) (0 - s1) (0 - c2) (0 - c1) n n m pc st zl' zh' n w1 w2 n w1 w2)) := by
  have hJ := h
  obtain ⟨hC, job, q1, q2, zo⟩ := h
  have few := job.few
  have ea : Ar.run .add .i64 i 1 = i + 1 := arAdd (by omega)
  have zc := (job.ord i.toNat (by omega)).1.2.2
  unfold VOk at zc
  have zb := zo i.toNat (by omega)
  have x1 : Ar.run .sub .i64 20000 (zh i.toNat) = 20000 - zh i.toNat := arSub (by omega)
  have x2 : Ar.run .sub .i64 20000 (zl i.toNat) = 20000 - zl i.toNat := arSub (by omega)
  have hI : TurI (.n0 m m m (i + 1) b s1 s2 c1 c2 n m pc st zl zh (!b) (0 - s2) (0 - s1) (0 - c2) (0 - c1) n n m pc st (fun j => bif Nat.beq j i.toNat then 20000 - zh i.toNat else zl' j) (fun j => bif Nat.beq j i.toNat then 20000 - zl i.toNat else zh' j) n w1 w2 n w1 w2) :=
    ⟨hJ, ⟨rfl, rfl, rfl, rfl, rfl, rfl, rfl, rfl⟩, ⟨rfl, rfl, rfl, rfl, rfl, rfl, rfl, rfl, rfl⟩, by omega, by omega, fun j hj => by
      dsimp only
      cases hb : Nat.beq j i.toNat with
      | true =>
        obtain rfl : j = i.toNat := Nat.eq_of_beq_eq_true hb
        rw [if_pos (by omega), if_pos (by omega)]; exact ⟨rfl, rfl⟩
      | false =>
        have hne := Nat.ne_of_beq_eq_false hb
        show zl' j = _ ∧ zh' j = _
        rw [(hz j hj).1, (hz j hj).2]
        by_cases hji : (j : Int) < i
        · rw [if_pos hji, if_pos hji, if_pos (by omega), if_pos (by omega)]; exact ⟨rfl, rfl⟩
        · rw [if_neg hji, if_neg hji, if_neg (by omega), if_neg (by omega)]; exact ⟨rfl, rfl⟩⟩
  have hM : dlyM (.n0 m m m (i + 1) b s1 s2 c1 c2 n m pc st zl zh (!b) (0 - s2) (0 - s1) (0 - c2) (0 - c1) n n m pc st (fun j => bif Nat.beq j i.toNat then 20000 - zh i.toNat else zl' j) (fun j => bif Nat.beq j i.toNat then 20000 - zl i.toNat else zh' j) n w1 w2 n w1 w2) < dlyM (.n0 m m m i b s1 s2 c1 c2 n m pc st zl zh (!b) (0 - s2) (0 - s1) (0 - c2) (0 - c1) n n m pc st zl' zh' n w1 w2 n w1 w2) := show 100000 + ((m : Int) - (i + 1)).toNat < 100000 + ((m : Int) - i).toNat by omega
  unfold dlyD
  simp only [DD.sat, Nat.zero_add, cmLss, cmLssF, cmLeq, cmLeqF, cmGtr, cmGtrF, cmGeq, cmGeqF, cmEql, cmEqlF, cmNeq, cmNeqF, decide_eq_true_eq, Bool.not_eq_true', Bool.not_eq_false', ea, x1, x2]
  repeat' (first
      | exact Nat.le_refl _
      | exact shape_ok fun i _ => rfl
      | assumption
      | trivial
      | (intro hx; first | (exfalso; omega) | skip)
      | apply And.intro
      | omega)
theorem dly_end (a0 : Bool) (a1 a2 : Int) (a3 : Nat) (a4 a5 : Nat → Int) (a6 : Nat) (a7 a8 a9 a10 : Nat → Int) (a11 : Nat) (a12 : Nat → Int) (a13 a14 : Int) (h13 : 0 ≤ a13 ∧ a13 ≤ 255) (h14 : 0 ≤ a14 ∧ a14 ≤ 255) {b : Bool} {s1 s2 c1 c2 : Int} {n : Nat} {w1 w2 : Nat → Int} {m : Nat} {pc st zl zh : Nat → Int} {i : Int} {zl' zh' : Nat → Int} (h : TurJ b s1 s2 c1 c2 n w1 w2 m pc st zl zh) (g1 : m ≤ i) (hz : ∀ j : Nat, j < m → zl' j = 20000 - zh j ∧ zh' j = 20000 - zl j) (gi : i ≤ m) :
    DD.sat (fun x => TurI x ∧ dlyM x < dlyM (.n0 m m m i b s1 s2 c1 c2 n m pc st zl zh (!b) (0 - s2) (0 - s1) (0 - c2) (0 - c1) n n m pc st zl' zh' n w1 w2 n w1 w2)) (fun v => v = true) (dlyD a0 a1 a2 a3 a4 a5 a6 a7 a8 a9 a10 a11 a12 a13 a14 (.n0 m m m i b s1 s2 c1 c2 n m pc st zl zh (!b) (0 - s2) (0 - s1) (0 - c2) (0 - c1) n n m pc st zl' zh' n w1 w2 n w1 w2)) := by
  obtain ⟨hC, job, q1, q2, zo⟩ := h
  have hn := hC.ok
  have job2 := turn_job job hz zo
  have hC2 : CkS n m (ToolOk n w1 w2 (0 - s2) (0 - s1) (0 - c2) (0 - c1)) pc st zl' zh' 0 := .inr ⟨by omega, 0, .inr ⟨by omega, .inl ⟨job2.tool, rfl⟩⟩, .inr ⟨rfl, .inr ⟨job2.ord, .inr ⟨by omega, rfl⟩⟩⟩⟩
  have l1 := job.late (a0 := b)
  have l2 := job2.late (a0 := !b)
  have ge : ∀ k, GE (PS pc m) (loJ b s1 c1 w1 w2 m pc st zl) (hiJ b s2 c2 w1 w2 m pc st zh) k = GE (PS pc m) (loJ (!b) (0 - s2) (0 - c2) w1 w2 m pc st zl') (hiJ (!b) (0 - s1) (0 - c1) w1 w2 m pc st zh') k := fun k => by
    have a := GE_more l1 l2 (by omega) (fun f x h0 h1 h2 hc => (turn_can (b := b) job hz h0 h1 h2).2 hc) k
    have b' := GE_more l2 l1 (by omega) (fun f x h0 h1 h2 hc => (turn_can (b := b) job hz h0 h1 h2).1 hc) k
    omega
  obtain ⟨af, av⟩ := dal_val (a0 := m) (a1 := pc) (a2 := st) (a3 := zl) (a4 := zh) job.few job.pc
  have avE : AF.val (dalA m (fun i => pc i) (fun i => st i) (fun i => zl i) (fun i => zh i)) = _ := av
  have r1 := rem_pos (x := a13) (k := PS pc m) h13.1 q1
  obtain ⟨f, hf⟩ : ∃ f, Ar.run .rem .i64 a13 (PS pc m) = f := ⟨_, rfl⟩
  rw [hf] at r1
  have es : Ar.run .sub .i64 (PS pc m) f = PS pc m - f := arSub (by omega)
  have r2 := rem_pos (x := a14) (k := PS pc m - f) h14.1 (by omega)
  obtain ⟨g, hg⟩ : ∃ g, Ar.run .rem .i64 a14 (PS pc m - f) = g := ⟨_, rfl⟩
  rw [hg] at r2
  have e1 : Ar.run .add .i64 f 1 = f + 1 := arAdd (by omega)
  have e2 : Ar.run .add .i64 (f + 1) g = f + 1 + g := arAdd (by omega)
  have k1 := conv_byte h13
  have k2 := conv_byte h14
  obtain ⟨t, ht⟩ : ∃ t, f + 1 + g = t := ⟨_, rfl⟩
  have ft : f < t := by omega
  have tp : t ≤ PS pc m := by omega
  -- targets
  have T : AF.fin (dtaA b s1 s2 c1 c2 n w1 w2 m pc st zl zh f t) = true ∧ AF.fin (dtaA (!b) (0 - s2) (0 - s1) (0 - c2) (0 - c1) n w1 w2 m pc st zl' zh' f t) = true ∧
      ((AF.val (dtaA b s1 s2 c1 c2 n (fun i => w1 i) (fun i => w2 i) m (fun i => pc i) (fun i => st i) (fun i => zl i) (fun i => zh i) f t) = (0, 0, 9) ∧ AF.val (dtaA (!b) (0 - s2) (0 - s1) (0 - c2) (0 - c1) n (fun i => w1 i) (fun i => w2 i) m (fun i => pc i) (fun i => st i) (fun i => zl' i) (fun i => zh' i) f t) = (0, 0, 9)) ∨
        ∃ L H, AF.val (dtaA b s1 s2 c1 c2 n (fun i => w1 i) (fun i => w2 i) m (fun i => pc i) (fun i => st i) (fun i => zl i) (fun i => zh i) f t) = (L, H, 0) ∧ AF.val (dtaA (!b) (0 - s2) (0 - s1) (0 - c2) (0 - c1) n (fun i => w1 i) (fun i => w2 i) m (fun i => pc i) (fun i => st i) (fun i => zl' i) (fun i => zh' i) f t) = (20000 - H, 20000 - L, 0) ∧ (-2000000 ≤ L ∧ L ≤ 100000000000) ∧ (-100000000000 ≤ H ∧ H ≤ 10002000000)) := by
    obtain ⟨tf, e, hC', tv⟩ := dta_val (a0 := b) (a1 := s1) (a2 := s2) (a3 := c1) (a4 := c2) (a5 := n) (a6 := w1) (a7 := w2) (a8 := m) (a9 := pc) (a10 := st) (a11 := zl) (a12 := zh) (a13 := f) (a14 := t) (by omega) (by omega)
    obtain rfl := hC'.same hC
    replace tv := (tv.resolve_left (fun q => q.1 rfl)).2
    replace tv := (tv.resolve_left (fun q => q.1 ⟨r1.1, ft, tp⟩)).2
    obtain ⟨tf2, e, hC', tv2⟩ := dta_val (a0 := !b) (a1 := 0 - s2) (a2 := 0 - s1) (a3 := 0 - c2) (a4 := 0 - c1) (a5 := n) (a6 := w1) (a7 := w2) (a8 := m) (a9 := pc) (a10 := st) (a11 := zl') (a12 := zh') (a13 := f) (a14 := t) (by omega) (by omega)
    obtain rfl := hC'.same hC2
    replace tv2 := (tv2.resolve_left (fun q => q.1 rfl)).2
    replace tv2 := (tv2.resolve_left (fun q => q.1 ⟨r1.1, ft, tp⟩)).2
    have el := job.lo (a0 := b) (a13 := f) r1.1 (by omega) ((t - f).toNat - 1)
    have eh := job.hi (a0 := b) (a13 := f) r1.1 (by omega) ((t - f).toNat - 1)
    have el2 := job2.lo (a0 := !b) (a13 := f) r1.1 (by omega) ((t - f).toNat - 1)
    have eh2 := job2.hi (a0 := !b) (a13 := f) r1.1 (by omega) ((t - f).toNat - 1)
    rw [show (t - f).toNat - 1 + 1 = (t - f).toNat by omega] at el eh el2 eh2
    have tu := turn_lo (b := b) (f := f) (k := (t - f).toNat) job hz r1.1 (by omega) (by omega)
    have lE : LoM (-1152921504606846976) (tlP b s1 c1 w1 w2 st pc zl m f) (t - f).toNat = (loJ b s1 c1 w1 w2 m pc st zl) f (t - f).toNat := rfl
    have hE : HiM 1152921504606846976 (thP b s2 c2 w1 w2 st pc zh m f) (t - f).toNat = (hiJ b s2 c2 w1 w2 m pc st zh) f (t - f).toNat := rfl
    have lE2 : LoM (-1152921504606846976) (tlP (!b) (0 - s2) (0 - c2) w1 w2 st pc zl' m f) (t - f).toNat = loJ (!b) (0 - s2) (0 - c2) w1 w2 m pc st zl' f (t - f).toNat := rfl
    have hE2 : HiM 1152921504606846976 (thP (!b) (0 - s1) (0 - c1) w1 w2 st pc zh' m f) (t - f).toNat = hiJ (!b) (0 - s1) (0 - c1) w1 w2 m pc st zh' f (t - f).toNat := rfl
    rw [el, eh, lE, hE] at tv
    rw [el2, eh2, lE2, hE2, tu.1, tu.2] at tv2
    have d := job.lobd (b := b) (f := f) (k := (t - f).toNat) r1.1 (by omega) (by omega)
    refine ⟨tf, tf2, ?_⟩
    rcases tv with ⟨hx, tv⟩ | ⟨hx, tv⟩
    · rcases tv2 with ⟨hy, tv2⟩ | ⟨hy, _⟩
      · exact .inl ⟨tv, tv2⟩
      · omega
    · rcases tv2 with ⟨hy, _⟩ | ⟨hy, tv2⟩
      · omega
      · exact .inr ⟨_, _, tv, tv2, d.1, d.2⟩
  -- reach
  have R : AF.fin (draA b s1 s2 c1 c2 n w1 w2 m pc st zl zh f) = true ∧ AF.fin (draA (!b) (0 - s2) (0 - s1) (0 - c2) (0 - c1) n w1 w2 m pc st zl' zh' f) = true ∧ ∃ z, AF.val (draA b s1 s2 c1 c2 n (fun i => w1 i) (fun i => w2 i) m (fun i => pc i) (fun i => st i) (fun i => zl i) (fun i => zh i) f) = (z, 0) ∧ AF.val (draA (!b) (0 - s2) (0 - s1) (0 - c2) (0 - c1) n (fun i => w1 i) (fun i => w2 i) m (fun i => pc i) (fun i => st i) (fun i => zl' i) (fun i => zh' i) f) = (z, 0) := by
    obtain ⟨rf, e, hC', rv⟩ := dra_val (a0 := b) (a1 := s1) (a2 := s2) (a3 := c1) (a4 := c2) (a5 := n) (a6 := w1) (a7 := w2) (a8 := m) (a9 := pc) (a10 := st) (a11 := zl) (a12 := zh) (a13 := f) (by omega) (by omega)
    obtain rfl := hC'.same hC
    replace rv := (rv.resolve_left (fun q => q.1 rfl)).2
    replace rv := (rv.resolve_left (fun q => q.1 ⟨r1.1, by omega⟩)).2
    obtain ⟨J, hJ, rv⟩ := rv
    obtain ⟨rf2, e, hC', rv2⟩ := dra_val (a0 := !b) (a1 := 0 - s2) (a2 := 0 - s1) (a3 := 0 - c2) (a4 := 0 - c1) (a5 := n) (a6 := w1) (a7 := w2) (a8 := m) (a9 := pc) (a10 := st) (a11 := zl') (a12 := zh') (a13 := f) (by omega) (by omega)
    obtain rfl := hC'.same hC2
    replace rv2 := (rv2.resolve_left (fun q => q.1 rfl)).2
    replace rv2 := (rv2.resolve_left (fun q => q.1 ⟨r1.1, by omega⟩)).2
    obtain ⟨J2, hJ2, rv2⟩ := rv2
    have j1 := JO_of l1 r1.1 (by omega) hJ
    have j2 := JO_of l2 r1.1 (by omega) hJ2
    have b1 := hJ.1
    have b2 := hJ2.1
    have : J = J2 := by
      rcases Nat.lt_trichotomy J J2 with q | q | q
      · have c := (can_iff l2 r1.1 (n := f + J2) (by omega) (by omega)).2 (by omega)
        have := (can_iff l1 r1.1 (by omega) (by omega)).1 ((turn_can (b := b) job hz r1.1 (by omega) (by omega)).1 c)
        omega
      · exact q
      · have c := (can_iff l1 r1.1 (n := f + J) (by omega) (by omega)).2 (by omega)
        have := (can_iff l2 r1.1 (by omega) (by omega)).1 ((turn_can (b := b) job hz r1.1 (by omega) (by omega)).2 c)
        omega
    subst this
    exact ⟨rf, rf2, _, rv, rv2⟩
  -- wear
  have W : AF.fin (dweA b s1 s2 c1 c2 n w1 w2 m pc st zl zh f t) = true ∧ AF.fin (dweA (!b) (0 - s2) (0 - s1) (0 - c2) (0 - c1) n w1 w2 m pc st zl' zh' f t) = true ∧ ∃ x y, AF.val (dweA b s1 s2 c1 c2 n (fun i => w1 i) (fun i => w2 i) m (fun i => pc i) (fun i => st i) (fun i => zl i) (fun i => zh i) f t) = (x, y, 0) ∧ AF.val (dweA (!b) (0 - s2) (0 - s1) (0 - c2) (0 - c1) n (fun i => w1 i) (fun i => w2 i) m (fun i => pc i) (fun i => st i) (fun i => zl' i) (fun i => zh' i) f t) = (x, y, 0) := by
    obtain ⟨wf, e, hC', wv⟩ := dwe_val (a0 := b) (a1 := s1) (a2 := s2) (a3 := c1) (a4 := c2) (a5 := n) (a6 := w1) (a7 := w2) (a8 := m) (a9 := pc) (a10 := st) (a11 := zl) (a12 := zh) (a13 := f) (a14 := t) (by omega) (by omega)
    obtain rfl := hC'.same hC
    replace wv := (wv.resolve_left (fun q => q.1 rfl)).2
    replace wv := (wv.resolve_left (fun q => q.1 ⟨r1.1, by omega, tp⟩)).2
    obtain ⟨wf2, e, hC', wv2⟩ := dwe_val (a0 := !b) (a1 := 0 - s2) (a2 := 0 - s1) (a3 := 0 - c2) (a4 := 0 - c1) (a5 := n) (a6 := w1) (a7 := w2) (a8 := m) (a9 := pc) (a10 := st) (a11 := zl') (a12 := zh') (a13 := f) (a14 := t) (by omega) (by omega)
    obtain rfl := hC'.same hC2
    replace wv2 := (wv2.resolve_left (fun q => q.1 rfl)).2
    replace wv2 := (wv2.resolve_left (fun q => q.1 ⟨r1.1, by omega, tp⟩)).2
    exact ⟨wf, wf2, _, _, wv, wv2⟩
  -- plans
  have P : AF.fin (dplA b s1 s2 c1 c2 n w1 w2 m pc st zl zh) = true ∧ AF.fin (dplA (!b) (0 - s2) (0 - s1) (0 - c2) (0 - c1) n w1 w2 m pc st zl' zh') = true ∧ ∃ k F G k' F' G' e, (dplw0 (AF.val (dplA b s1 s2 c1 c2 n (fun i => w1 i) (fun i => w2 i) m (fun i => pc i) (fun i => st i) (fun i => zl i) (fun i => zh i))) = k ∧ dplw1 (AF.val (dplA b s1 s2 c1 c2 n (fun i => w1 i) (fun i => w2 i) m (fun i => pc i) (fun i => st i) (fun i => zl i) (fun i => zh i))) = e ∧ dplw2 (AF.val (dplA b s1 s2 c1 c2 n (fun i => w1 i) (fun i => w2 i) m (fun i => pc i) (fun i => st i) (fun i => zl i) (fun i => zh i))) = F ∧ dplw3 (AF.val (dplA b s1 s2 c1 c2 n (fun i => w1 i) (fun i => w2 i) m (fun i => pc i) (fun i => st i) (fun i => zl i) (fun i => zh i))) = G) ∧
      (dplw0 (AF.val (dplA (!b) (0 - s2) (0 - s1) (0 - c2) (0 - c1) n (fun i => w1 i) (fun i => w2 i) m (fun i => pc i) (fun i => st i) (fun i => zl' i) (fun i => zh' i))) = k' ∧ dplw1 (AF.val (dplA (!b) (0 - s2) (0 - s1) (0 - c2) (0 - c1) n (fun i => w1 i) (fun i => w2 i) m (fun i => pc i) (fun i => st i) (fun i => zl' i) (fun i => zh' i))) = e ∧ dplw2 (AF.val (dplA (!b) (0 - s2) (0 - s1) (0 - c2) (0 - c1) n (fun i => w1 i) (fun i => w2 i) m (fun i => pc i) (fun i => st i) (fun i => zl' i) (fun i => zh' i))) = F' ∧ dplw3 (AF.val (dplA (!b) (0 - s2) (0 - s1) (0 - c2) (0 - c1) n (fun i => w1 i) (fun i => w2 i) m (fun i => pc i) (fun i => st i) (fun i => zl' i) (fun i => zh' i))) = G') ∧
      k' = k ∧ k ≤ 150 ∧ ∀ j, j < k → F j = F' j := by
    obtain ⟨pf, e, hC', pv⟩ := dpl_val (a0 := b) (a1 := s1) (a2 := s2) (a3 := c1) (a4 := c2) (a5 := n) (a6 := w1) (a7 := w2) (a8 := m) (a9 := pc) (a10 := st) (a11 := zl) (a12 := zh) (by omega) (by omega) (fun _ => by omega)
    obtain rfl := hC'.same hC
    replace pv := (pv.resolve_left (fun q => q.1 rfl)).2
    obtain ⟨pf2, e, hC', pv2⟩ := dpl_val (a0 := !b) (a1 := 0 - s2) (a2 := 0 - s1) (a3 := 0 - c2) (a4 := 0 - c1) (a5 := n) (a6 := w1) (a7 := w2) (a8 := m) (a9 := pc) (a10 := st) (a11 := zl') (a12 := zh') (by omega) (by omega) (fun _ => by omega)
    obtain rfl := hC'.same hC2
    replace pv2 := (pv2.resolve_left (fun q => q.1 rfl)).2
    refine ⟨pf, pf2, ?_⟩
    rcases pv with ⟨stk, pv⟩ | ⟨k, F, G, c, pv⟩ <;> rcases pv2 with ⟨stk2, pv2⟩ | ⟨k', F', G', c', pv2⟩
    · have pE : AF.val (dplA b s1 s2 c1 c2 n (fun i => w1 i) (fun i => w2 i) m (fun i => pc i) (fun i => st i) (fun i => zl i) (fun i => zh i)) = _ := pv
      have pE2 : AF.val (dplA (!b) (0 - s2) (0 - s1) (0 - c2) (0 - c1) n (fun i => w1 i) (fun i => w2 i) m (fun i => pc i) (fun i => st i) (fun i => zl' i) (fun i => zh' i)) = _ := pv2
      rw [pE, pE2]
      exact ⟨_, _, _, _, _, _, _, ⟨rfl, rfl, rfl, rfl⟩, ⟨rfl, rfl, rfl, rfl⟩, rfl, by decide, fun j hj => absurd hj (Nat.not_lt_zero _)⟩
    · exfalso
      have a := stk.less l1 (by omega) k'
      have b' := (c'.ge l2 (by omega)).1
      rw [ge] at a
      omega
    · exfalso
      have a := stk2.less l2 (by omega) k
      have b' := (c.ge l1 (by omega)).1
      rw [← ge] at a
      omega
    · have pE : AF.val (dplA b s1 s2 c1 c2 n (fun i => w1 i) (fun i => w2 i) m (fun i => pc i) (fun i => st i) (fun i => zl i) (fun i => zh i)) = _ := pv
      have pE2 : AF.val (dplA (!b) (0 - s2) (0 - s1) (0 - c2) (0 - c1) n (fun i => w1 i) (fun i => w2 i) m (fun i => pc i) (fun i => st i) (fun i => zl' i) (fun i => zh' i)) = _ := pv2
      rw [pE, pE2]
      have g1 := c.ge l1 (by omega)
      have g2 := c'.ge l2 (by omega)
      have cl := c.len
      have kk : k' = k := by
        rcases Nat.lt_trichotomy k k' with q | q | q
        · have a := (g2.2 k q).2
          have r := GE_rng l2 (by omega) (k + 1)
          rw [← ge k, g1.1] at a
          omega
        · exact q.symm
        · have a := (g1.2 k' q).2
          have r := GE_rng l1 (by omega) (k' + 1)
          rw [ge k', g2.1] at a
          omega
      subst kk
      exact ⟨_, _, _, _, _, _, _, ⟨rfl, rfl, rfl, rfl⟩, ⟨rfl, rfl, rfl, rfl⟩, rfl, by show k' ≤ 150; omega, fun j hj => by
        show F j = F' j
        rw [(g1.2 j hj).1, (g2.2 j hj).1, ge j]⟩
  obtain ⟨tf, tf2, T⟩ := T
  obtain ⟨rf, rf2, z, rv, rv2⟩ := R
  obtain ⟨wf, wf2, x, y, wv, wv2⟩ := W
  obtain ⟨pf, pf2, k, F, G, k', F', G', e, ⟨p0, p1, p2, p3⟩, ⟨p0', p1', p2', p3'⟩, rfl, kb, hF⟩ := P
  have hI : TurI (.n1 k' k' 0 k' F G k' F' G') := ⟨⟨rfl, rfl, rfl, by omega⟩, Int.le_refl _, by omega, hF⟩
  have hM : dlyM (.n1 k' k' 0 k' F G k' F' G') < dlyM (.n0 m m m i b s1 s2 c1 c2 n m pc st zl zh (!b) (0 - s2) (0 - s1) (0 - c2) (0 - c1) n n m pc st zl' zh' n w1 w2 n w1 w2) := show ((k' : Int) - 0).toNat < 100000 + ((m : Int) - i).toNat by omega
  clear ge l1 l2 zo hz hF
  unfold dlyD
  rcases T with ⟨tv, tv2⟩ | ⟨L, H, tv, tv2, d1, d2⟩
  · simp only [DD.sat, Nat.zero_add, cmLss, cmLssF, cmLeq, cmLeqF, cmGtr, cmGtrF, cmGeq, cmGeqF, cmEql, cmEqlF, cmNeq, cmNeqF, decide_eq_true_eq, Bool.not_eq_true', Bool.not_eq_false', k1, k2, avE, hf, es, hg, e1, e2, ht, tv, tv2, rv, rv2, wv, wv2, p0, p1, p2, p3, p0', p1', p2', p3']
    repeat' (first
      | exact Nat.le_refl _
      | exact shape_ok fun i _ => rfl
      | assumption
      | trivial
      | (intro hx; first | (exfalso; omega) | skip)
      | apply And.intro
      | omega)
  · have e3 : Ar.run .sub .i64 20000 L = 20000 - L := arSub (by omega)
    have e4 : Ar.run .sub .i64 20000 H = 20000 - H := arSub (by omega)
    simp only [DD.sat, Nat.zero_add, cmLss, cmLssF, cmLeq, cmLeqF, cmGtr, cmGtrF, cmGeq, cmGeqF, cmEql, cmEqlF, cmNeq, cmNeqF, decide_eq_true_eq, Bool.not_eq_true', Bool.not_eq_false', k1, k2, avE, hf, es, hg, e1, e2, e3, e4, ht, tv, tv2, rv, rv2, wv, wv2, p0, p1, p2, p3, p0', p1', p2', p3']
    repeat' (first
      | exact Nat.le_refl _
      | exact shape_ok fun i _ => rfl
      | assumption
      | trivial
      | (intro hx; first | (exfalso; omega) | skip)
      | apply And.intro
      | omega)
theorem dly_run (a0 : Bool) (a1 a2 : Int) (a3 : Nat) (a4 a5 : Nat → Int) (a6 : Nat) (a7 a8 a9 a10 : Nat → Int) (a11 : Nat) (a12 : Nat → Int) (a13 a14 : Int) (h1 : 0 ≤ a1 ∧ a1 ≤ 255) (h2 : 0 ≤ a2 ∧ a2 ≤ 255) (_ : a3 ≤ 9223372036854775807) (h4 : ∀ i, 0 ≤ a4 i ∧ a4 i ≤ 255) (h5 : ∀ i, 0 ≤ a5 i ∧ a5 i ≤ 255) (_ : a6 ≤ 9223372036854775807) (h7 : ∀ i, 0 ≤ a7 i ∧ a7 i ≤ 255) (h8 : ∀ i, 0 ≤ a8 i ∧ a8 i ≤ 255) (h9 : ∀ i, 0 ≤ a9 i ∧ a9 i ≤ 255) (h10 : ∀ i, 0 ≤ a10 i ∧ a10 i ≤ 255) (h11 : a11 ≤ 9223372036854775807) (h12 : ∀ i, 0 ≤ a12 i ∧ a12 i ≤ 255) (h13 : 0 ≤ a13 ∧ a13 ≤ 255) (h14 : 0 ≤ a14 ∧ a14 ≤ 255) :
    ∃ n v, AF.run (dlyA a0 a1 a2 a3 a4 a5 a6 a7 a8 a9 a10 a11 a12 a13 a14) n = some v ∧ v = true := by
  refine AF.run_sat (E := fun v => v = true) (Inv := TurI) dlyM (fun b => rfl) (fun b h => ?_) (dly_sat a0 a1 a2 a3 a4 a5 a6 a7 a8 a9 a10 a11 a12 a13 a14 h1 h2 h4 h5 h7 h8 h9 h10)
  cases b with
  | n0 p0 p1 p2 p3 b s1 s2 c1 c2 n m pc st zl zh b' t1 t2 d1 d2 n2 n3 m3 pc' st' zl' zh' n4 w1 w2 n5 w1' w2' =>
    obtain ⟨h, ⟨rfl, rfl, rfl, rfl, rfl, rfl, rfl, rfl⟩, ⟨rfl, rfl, rfl, rfl, rfl, rfl, rfl, rfl, rfl⟩, g0, g1, hz⟩ := h
    by_cases hq : p3 < m3
    · exact dly_loop a0 a1 a2 a3 a4 a5 a6 a7 a8 a9 a10 a11 a12 a13 a14 h g0 hq hz
    · exact dly_end a0 a1 a2 a3 a4 a5 a6 a7 a8 a9 a10 a11 a12 a13 a14 h13 h14 h (by omega) (fun j hj => by
        have := hz j hj
        rw [if_pos (by omega), if_pos (by omega)] at this
        exact this) g1
  | n1 k k2 i k3 F G k4 F' G' =>
    obtain ⟨⟨rfl, rfl, rfl, hk⟩, g0, g1, hF⟩ := h
    show DD.sat _ _ (dlyD a0 a1 a2 a3 a4 a5 a6 a7 a8 a9 a10 a11 a12 a13 a14 (.n1 k4 k4 i k4 F G k4 F' G'))
    unfold dlyD
    by_cases hq : i < k4
    · have ea : Ar.run .add .i64 i 1 = i + 1 := arAdd (by omega)
      have e := hF i.toNat (by omega)
      have hI : TurI (.n1 k4 k4 (i + 1) k4 F G k4 F' G') := ⟨⟨rfl, rfl, rfl, hk⟩, by omega, by omega, hF⟩
      have hM : dlyM (.n1 k4 k4 (i + 1) k4 F G k4 F' G') < dlyM (.n1 k4 k4 i k4 F G k4 F' G') := show ((k4 : Int) - (i + 1)).toNat < ((k4 : Int) - i).toNat by omega
      simp only [DD.sat, Nat.zero_add, cmLss, cmLssF, cmLeq, cmLeqF, cmGtr, cmGtrF, cmGeq, cmGeqF, cmEql, cmEqlF, cmNeq, cmNeqF, decide_eq_true_eq, Bool.not_eq_true', Bool.not_eq_false', ea, e]
      repeat' (first
      | exact Nat.le_refl _
      | exact shape_ok fun i _ => rfl
      | assumption
      | trivial
      | (intro hx; first | (exfalso; omega) | skip)
      | apply And.intro
      | omega)
    · simp only [DD.sat, Nat.zero_add, cmLss, cmLssF, cmLeq, cmLeqF, cmGtr, cmGtrF, cmGeq, cmGeqF, cmEql, cmEqlF, cmNeq, cmNeqF, decide_eq_true_eq, Bool.not_eq_true', Bool.not_eq_false']
      repeat' (first
      | exact Nat.le_refl _
      | exact shape_ok fun i _ => rfl
      | assumption
      | trivial
      | (intro hx; first | (exfalso; omega) | skip)
      | apply And.intro
      | omega)
end Go.Proofs.Ythagjhadjpangaa.Cx

/- ARGUMENTS THAT ARE SLICES: opened as lists; the memory in which they lie as blocks that are read alone; a law's contract as its statement's walk. -/
namespace Go.Proofs.Ythagjhadjpangaa.Cx
set_option linter.unusedSimpArgs false
set_option linter.unusedVariables false
open Go Go.RowKit Go.ChangeShapes Go.WideShapes Go.Deep Go.Proofs.Ythagjhadjpangaa
/-! ## Such slices as blocks -/
section
variable {P : Program} {ρ : Env}
/-- Where a slice's rows lie. -/
noncomputable def locOf (w : World) (v : Value) (z : Nat) : Option Loc :=
  match v with
  | .slice (some a) (_ + 1) _ => match w.heap[a.block]? with
    | some (.cells c _ _) => some ⟨a.block, a.off, c.size, z⟩
    | _ => none
  | _ => none
theorem rows_rel {α : Type} {en : α → List Value} {ec : α → List CV} {d : α} (he : ∀ σ x, VRl ρ σ (ec x) (en x)) (σ : Mp) : ∀ (xs : List α) (n : Nat), n ≤ xs.length → VRl ρ σ (flatR (fun j => ec (xs.getD j d)) n) ((xs.take n).flatMap en)
  | xs, 0, _ => by simpa [flatR] using VRl.nil
  | xs, n + 1, h => by
    have ih := rows_rel (d := d) he σ xs n (by omega)
    rw [flatR, List.take_add_one, List.flatMap_append]
    refine ih.append ?_
    have hn : n < xs.length := by omega
    rw [List.getElem?_eq_getElem hn, List.getD_eq_getElem?_getD, List.getElem?_eq_getElem hn]
    simpa using he σ xs[n]
theorem SlR.rel {α : Type} {en : α → List Value} {ec : α → List CV} {d : α} {z : Nat} {w : World} {v : Value} {xs : List α} {σ : Mp} {b : Nat} (h : SlR en z w v xs) (hz : ∀ x, (en x).length = z) (he : ∀ σ x, VRl ρ σ (ec x) (en x))
    (hk : ∀ j, (ec (xs.getD j d)).length = z ∧ (ec (xs.getD j d)).all CV.flat = true) (hσ : σ b = locOf w v z) :
    VR ρ σ (.sla b z 0 xs.length) v ∧ ArgAt ρ w ⟨.arg xs.length z (fun j => ec (xs.getD j d)) hk, z, true, none⟩ (σ b) := by
  obtain ⟨a, cap, rfl, hcap, _, hx⟩ := h
  have hcl : Blk.cells ⟨.arg xs.length z (fun j => ec (xs.getD j d)) hk, z, true, none⟩ = flatR (fun j => ec (xs.getD j d)) xs.length := rfl
  have hlen := flatR_length (fun j => (hk j).1) xs.length
  rcases hx with rfl | ⟨bl, off, c, t, p, rfl, hh, hsz, hrow⟩
  · refine ⟨.sla0 _ _, rfl, rfl, rfl, fun l hl => ?_⟩
    rw [hσ] at hl
    simp [locOf] at hl
  · cases xs with
    | nil =>
      refine ⟨.sla0 _ _, rfl, rfl, rfl, fun l hl => ?_⟩
      rw [hσ] at hl
      simp [locOf] at hl
    | cons x xs =>
      have hlo : locOf w (.slice (some ⟨bl, off, none⟩) (x :: xs).length cap) z = some ⟨bl, off, c.size, z⟩ := by
        simp [locOf, hh]
      rw [hlo] at hσ
      refine ⟨?_, rfl, rfl, rfl, fun l hl => ?_⟩
      · have := VR.sla (ρ := ρ) (σ := σ) (b := b) (z := z) (o := 0) (n := (x :: xs).length) (c' := cap) hσ hcap
        simpa using this
      · rw [hσ] at hl
        obtain rfl := Option.some.inj hl
        refine ⟨c, t, p, hh, rfl, rfl, by rw [hcl, hlen]; exact hsz, fun τ => ?_⟩
        rw [hcl, hlen, hrow]
        have := rows_rel (ρ := ρ) (d := d) he τ (x :: xs) (x :: xs).length (Nat.le_refl _)
        rwa [List.take_of_length_le (Nat.le_refl _)] at this
/-- A law's contract, as its statement's walk. -/
theorem Ctr.law {f : Nat} {args : List CV} {h0 h1 : Tr Blk} {base n1 : Nat} {e : BE} {w : World} {σ : Mp} {args' : Array Value} (K : Ctr P ρ f args h0 base [] (.bool e) h1 n1) (he : e.den ρ = true) (ha : VRl ρ σ args args'.toList) (hH : HR ρ σ (curOf h0 base) w) (hN : ∀ b, base ≤ b → σ b = none) :
    Calls P f args' w fun e w' => e = .returned (.bool true) ∧ Below w.heap.size w w' := by
  refine ((K.run 0 σ w args' ha hH hN).calls (fun k d h => by cases h)).mono ?_
  rintro e' w' ⟨v, rfl, σ', h1, h2, h3, h4, h5⟩
  cases h2
  refine ⟨by rw [he], h4.os, h4.tape, h4.output, h4.size, fun k hk => h4.block k hk (fun b hb l hl => ?_)⟩
  rcases hb with hb | hb
  · cases hb
  · rw [hN b hb] at hl; cases hl
end
end Go.Proofs.Ythagjhadjpangaa.Cx

/- ARGUMENTS OF LAWS, OPENED BY THEIR TYPES: integers, bools, structs, arrays, and slices of rows of integers and bools (a table each); the memory in which these lie. -/
namespace Go.Proofs.Ythagjhadjpangaa.Cx
set_option linter.unusedSimpArgs false
set_option linter.unusedVariables false
open Go Go.RowKit Go.ChangeShapes Go.WideShapes Go.Deep Go.Proofs.Ythagjhadjpangaa
/-! ## What the cells of a type are -/
inductive CK where
  | int (k : IntKind)
  | bool
  | tab (ks : List (Option IntKind))
def flatCK : List CK → Option (List (Option IntKind))
  | [] => some []
  | .int k :: l => match flatCK l with | some m => some (some k :: m) | none => none
  | .bool :: l => match flatCK l with | some m => some (none :: m) | none => none
  | .tab _ :: _ => none
def ckFs (P : Program) (f : TypeId → Option (List CK)) : Nat → List Field → Option (List CK)
  | _, [] => some []
  | off, fd :: l => match f fd.type with
    | some ks => bif Nat.beq fd.offset off && Nat.beq (P.cellsOf fd.type) ks.length then (match ckFs P f (off + ks.length) l with | some m => some (ks ++ m) | none => none) else none
    | none => none
def repL {α : Type} : Nat → List α → List α
  | 0, _ => []
  | n + 1, l => repL n l ++ l
def ckOf (P : Program) : Nat → TypeId → Option (List CK)
  | 0, _ => none
  | d + 1, t => match P.underlying t with
    | some (.int k) => some [.int k]
    | some .bool => some [.bool]
    | some (.struct fs) => match ckFs P (ckOf P d) 0 fs.toList with
      | some ks => bif Nat.beq (P.cellsOf t) ks.length then some ks else none
      | none => none
    | some (.array n e) => match ckOf P d e with
      | some ks => bif Nat.beq (P.cellsOf e) ks.length && Nat.beq (P.cellsOf t) (n * ks.length) then some (repL n ks) else none
      | none => none
    | some (.slice e) => match ckOf P d e with
      | some ks => match flatCK ks with
        | some l => bif Nat.beq (P.cellsOf e) l.length && Nat.blt 0 l.length then some [.tab l] else none
        | none => none
      | none => none
    | _ => none
/-! ## Rows -/
/-- The cells of a row: integers and bools, by their places. -/
structure RowV where
  c : Nat → Int
  g : Nat → Bool
def RowV.zero : RowV := ⟨fun _ => 0, fun _ => false⟩
def enV (r : RowV) : List (Option IntKind) → Nat → List Value
  | [], _ => []
  | some k :: ks, j => .int k (r.c j) :: enV r ks (j + 1)
  | none :: ks, j => .bool (r.g j) :: enV r ks (j + 1)
def okV (ks : List (Option IntKind)) (r : RowV) : Prop := ∀ j k, ks[j]? = some (some k) → (Lit.int k (r.c j)).wf = true
theorem enV_length (r : RowV) : ∀ (ks : List (Option IntKind)) (j : Nat), (enV r ks j).length = ks.length
  | [], _ => rfl
  | some k :: ks, j => congrArg Nat.succ (enV_length r ks (j + 1))
  | none :: ks, j => congrArg Nat.succ (enV_length r ks (j + 1))
/-- The cells of an argument: such, and slices of rows. -/
structure RowW where
  c : Nat → Int
  g : Nat → Bool
  s : Nat → Value
  t : Nat → List RowV
def enW (r : RowW) : List CK → Nat → List Value
  | [], _ => []
  | .int k :: ks, j => .int k (r.c j) :: enW r ks (j + 1)
  | .bool :: ks, j => .bool (r.g j) :: enW r ks (j + 1)
  | .tab _ :: ks, j => r.s j :: enW r ks (j + 1)
/-- A slice of such rows. -/
def SlT (ks : List (Option IntKind)) (w : World) (v : Value) (xs : List RowV) : Prop := SlR (fun r => enV r ks 0) ks.length w v xs ∧ ∀ x ∈ xs, okV ks x
def cellW (w : World) : CK → Value → Prop
  | .int k, v => ∃ z, v = .int k z ∧ (Lit.int k z).wf = true
  | .bool, v => ∃ b, v = .bool b
  | .tab ks, v => ∃ xs, SlT ks w v xs
inductive Mt (w : World) : List CK → List Value → Prop
  | nil : Mt w [] []
  | cons {k : CK} {v : Value} {ks : List CK} {vs : List Value} (h : cellW w k v) (t : Mt w ks vs) : Mt w (k :: ks) (v :: vs)
theorem Mt.append {w : World} {a b : List CK} {x y : List Value} (h : Mt w a x) (h' : Mt w b y) : Mt w (a ++ b) (x ++ y) := by
  induction h with
  | nil => exact h'
  | cons h _ ih => exact .cons h ih
theorem Mt.length {w : World} {a : List CK} {x : List Value} (h : Mt w a x) : x.length = a.length := by
  induction h with
  | nil => rfl
  | cons h _ ih => simp [ih]
/-- What the cells' places hold. -/
noncomputable def rowW (w : World) (ks : List CK) (vs : List Value) : RowW :=
  ⟨fun j => match vs[j]? with | some (.int _ z) => z | _ => 0, fun j => match vs[j]? with | some (.bool b) => b | _ => false, fun j => vs.getD j (.bool false),
   fun j => match ks[j]? with | some (.tab l) => @dite _ (∃ xs, SlT l w (vs.getD j (.bool false)) xs) (Classical.propDecidable _) (fun h => Classical.choose h) (fun _ => []) | _ => []⟩
def okW (w : World) (ks : List CK) (r : RowW) : Prop := (∀ j k, ks[j]? = some (.int k) → (Lit.int k (r.c j)).wf = true) ∧ ∀ j l, ks[j]? = some (.tab l) → SlT l w (r.s j) (r.t j)
theorem Mt.get {w : World} {ks : List CK} {vs : List Value} (h : Mt w ks vs) : ∀ {j : Nat} {k : CK}, ks[j]? = some k → ∃ v, vs[j]? = some v ∧ cellW w k v := by
  induction h with
  | nil => intro j k h; simp at h
  | cons h _ ih =>
    intro j k hj
    cases j with
    | zero => simp at hj; subst hj; exact ⟨_, rfl, h⟩
    | succ j => simpa using ih (by simpa using hj)
theorem Mt.row {w : World} {ks : List CK} {vs : List Value} (h : Mt w ks vs) : vs = enW (rowW w ks vs) ks 0 ∧ okW w ks (rowW w ks vs) := by
  have key : ∀ (n : Nat) (pre post : List CK) (a b : List Value), ks = pre ++ post → vs = a ++ b → a.length = pre.length → b.length = post.length → post.length = n → b = enW (rowW w ks vs) post pre.length := by
    intro n
    induction n with
    | zero =>
      intro pre post a b h1 h2 h3 h4 h5
      cases post with
      | nil => cases b with
        | nil => rfl
        | cons x b => simp at h4
      | cons x l => simp at h5
    | succ n ih =>
      intro pre post a b h1 h2 h3 h4 h5
      cases post with
      | nil => simp at h5
      | cons k post =>
        cases b with
        | nil => simp at h4
        | cons v b =>
          have hk : ks[pre.length]? = some k := by rw [h1]; simp
          have hv : vs[pre.length]? = some v := by rw [h2, ← h3]; simp
          obtain ⟨v', hv', hc⟩ := h.get hk
          rw [hv] at hv'
          obtain rfl := Option.some.inj hv'
          have ih' := ih (pre ++ [k]) post (a ++ [v]) b (by simp [h1]) (by simp [h2]) (by simp [h3]) (by simpa using h4) (by simpa using h5)
          rw [List.length_append, List.length_singleton] at ih'
          have hd : vs.getD pre.length (.bool false) = v := by rw [List.getD_eq_getElem?_getD, hv]; rfl
          cases k with
          | int k =>
            obtain ⟨z, rfl, _⟩ := hc
            rw [enW, ← ih']
            congr 1
            simp [rowW, hv]
          | bool =>
            obtain ⟨z, rfl⟩ := hc
            rw [enW, ← ih']
            congr 1
            simp [rowW, hv]
          | tab l =>
            rw [enW, ← ih']
            congr 1
            exact hd.symm
  refine ⟨key ks.length [] ks [] vs rfl rfl rfl h.length rfl, fun j k hk => ?_, fun j l hl => ?_⟩
  · obtain ⟨v, hv, z, rfl, hz⟩ := h.get hk
    simpa [rowW, hv] using hz
  · obtain ⟨v, hv, xs, hx⟩ := h.get hl
    have hd : vs.getD j (.bool false) = v := by rw [List.getD_eq_getElem?_getD, hv]; rfl
    have hex : ∃ xs, SlT l w (vs.getD j (.bool false)) xs := ⟨xs, by rw [hd]; exact hx⟩
    have e : (rowW w ks vs).t j = Classical.choose hex := by
      simp only [rowW, hl]
      rw [dif_pos hex]
    rw [e]
    exact Classical.choose_spec hex
/-- Cells of a row, as a row. -/
theorem Mt.flat {w : World} {cks : List CK} {vs : List Value} (h : Mt w cks vs) : ∀ {ks : List (Option IntKind)}, flatCK cks = some ks → ∃ r : RowV, vs = enV r ks 0 ∧ okV ks r := by
  have key : ∀ {cks : List CK} {vs : List Value}, Mt w cks vs → ∀ {ks : List (Option IntKind)}, flatCK cks = some ks → ∀ (r : RowV) (j : Nat), ∃ r' : RowV, vs = enV r' ks j ∧ (∀ i k, ks[i]? = some (some k) → (Lit.int k (r'.c (j + i))).wf = true) ∧ ∀ i, i < j → r'.c i = r.c i ∧ r'.g i = r.g i := by
    intro cks vs h
    induction h with
    | nil =>
      intro ks hk r j
      simp only [flatCK] at hk
      cases hk
      exact ⟨r, rfl, fun i k h => by simp at h, fun i _ => ⟨rfl, rfl⟩⟩
    | @cons k v cks vs hc _ ih =>
      intro ks hk r j
      cases k with
      | int k =>
        simp only [flatCK] at hk
        split at hk
        · rename_i m hm
          cases hk
          obtain ⟨z, rfl, hz⟩ := hc
          obtain ⟨r', h1, h2, h3⟩ := ih hm ⟨fun i => if i = j then z else r.c i, r.g⟩ (j + 1)
          have hj := h3 j (by omega)
          simp only [if_true] at hj
          refine ⟨r', by rw [enV, hj.1, ← h1], fun i k' hk' => ?_, fun i hi => ?_⟩
          · cases i with
            | zero => simp at hk'; subst hk'; rw [Nat.add_zero, hj.1]; exact hz
            | succ i => have := h2 i k' (by simpa using hk'); rwa [show j + 1 + i = j + (i + 1) by omega] at this
          · have := h3 i (by omega)
            simp only [if_neg (show i ≠ j by omega)] at this
            exact this
        · cases hk
      | bool =>
        simp only [flatCK] at hk
        split at hk
        · rename_i m hm
          cases hk
          obtain ⟨z, rfl⟩ := hc
          obtain ⟨r', h1, h2, h3⟩ := ih hm ⟨r.c, fun i => if i = j then z else r.g i⟩ (j + 1)
          have hj := h3 j (by omega)
          simp only [if_true] at hj
          refine ⟨r', by rw [enV, hj.2, ← h1], fun i k' hk' => ?_, fun i hi => ?_⟩
          · cases i with
            | zero => simp at hk'
            | succ i => have := h2 i k' (by simpa using hk'); rwa [show j + 1 + i = j + (i + 1) by omega] at this
          · have := h3 i (by omega)
            simp only [if_neg (show i ≠ j by omega)] at this
            exact this
        · cases hk
      | tab l => simp [flatCK] at hk
  intro ks hk
  obtain ⟨r', h1, h2, _⟩ := key h hk RowV.zero 0
  exact ⟨r', h1, fun j k hj => by have := h2 j k hj; rwa [Nat.zero_add] at this⟩
section
variable {H : Type} {enc : TypeId × Value → H} {P : Program} {w : World} {base : Nat} {spare : Nat → Bool} {held : Bool}
theorem seg_add {α : Type} (cs : List α) (o a b : Nat) : (cs.drop o).take (a + b) = (cs.drop o).take a ++ (cs.drop (o + a)).take b := by
  rw [List.take_add, List.drop_drop]
theorem ckFs_ok {f : TypeId → Option (List CK)} {cs : List Value} (hf : ∀ t ks, f t = some ks → ∀ n vs y, DataW.trod enc P w base spare held n t vs = some y → Mt w ks vs) :
    ∀ (l : List Field) (off : Nat) (ks : List CK), ckFs P f off l = some ks → (∀ (i : Nat) (fd : Field), l[i]? = some fd → ∃ n y, DataW.trod enc P w base spare held n fd.type ((cs.drop fd.offset).take (P.cellsOf fd.type)) = some y) → Mt w ks ((cs.drop off).take ks.length)
  | [], off, ks, h, _ => by
    simp only [ckFs] at h
    cases h
    simpa using Mt.nil
  | fd :: l, off, ks, h, ht => by
    simp only [ckFs] at h
    split at h
    · rename_i k1 hk1
      cases hc : (Nat.beq fd.offset off && Nat.beq (P.cellsOf fd.type) k1.length) with
      | false => rw [hc, cond_false] at h; cases h
      | true =>
        rw [hc, cond_true] at h
        simp only [Bool.and_eq_true] at hc
        have e1 := Nat.eq_of_beq_eq_true hc.1
        have e2 := Nat.eq_of_beq_eq_true hc.2
        split at h
        · rename_i m hm
          cases h
          obtain ⟨n, y, hy⟩ := ht 0 fd rfl
          rw [e1, e2] at hy
          have h1 := hf _ _ hk1 _ _ _ hy
          have h2 := ckFs_ok hf l (off + k1.length) m hm fun i fd' hi => ht (i + 1) fd' (by simpa using hi)
          rw [List.length_append, seg_add]
          exact h1.append h2
        · cases h
    · cases h
theorem repL_ok {cs : List Value} {ks : List CK} {z : Nat} (hz : ks.length = z) : ∀ (n : Nat), (∀ i, i < n → Mt w ks ((cs.drop (i * z)).take z)) → Mt w (repL n ks) (cs.take (n * z))
  | 0, _ => by simpa [repL] using Mt.nil
  | n + 1, h => by
    have ih := repL_ok hz n fun i hi => h i (by omega)
    rw [repL, Nat.succ_mul, List.take_add]
    exact ih.append (h n (by omega))
theorem ckOf_ok : ∀ (d : Nat) (t : TypeId) (ks : List CK), ckOf P d t = some ks → ∀ n cs y, DataW.trod enc P w base spare held n t cs = some y → Mt w ks cs
  | 0, _, _, h => by simp [ckOf] at h
  | d + 1, t, ks, h => by
    intro n cs y hy
    unfold ckOf at h
    split at h
    · rename_i k hk
      cases h
      obtain ⟨z, rfl, _, hw⟩ := DataW.trod_int hk hy
      exact .cons ⟨z, rfl, hw⟩ .nil
    · rename_i hk
      cases h
      obtain ⟨b, rfl, _⟩ := DataW.trod_bool hk hy
      exact .cons ⟨b, rfl⟩ .nil
    · rename_i fs hk
      split at h
      · rename_i l hl
        cases hc : Nat.beq (P.cellsOf t) l.length with
        | false => rw [hc, cond_false] at h; cases h
        | true =>
          rw [hc, cond_true] at h
          cases h
          have hlen := Nat.eq_of_beq_eq_true hc
          obtain ⟨xs, m, _, _, hcl, hxl, hg⟩ := DataW.trod_struct hk hy
          have := ckFs_ok (ckOf_ok d) fs.toList 0 _ hl (cs := cs) fun i fd hi => by
            have hi' : fs[i]? = some fd := by simpa using hi
            have hlt : i < xs.length := by rw [hxl]; exact (Array.getElem?_eq_some_iff.1 hi').1
            exact ⟨m, xs[i], by rw [hg i fd hi']; exact List.getElem?_eq_getElem hlt⟩
          rwa [List.drop_zero, List.take_of_length_le (by omega)] at this
      · cases h
    · rename_i m e hk
      split at h
      · rename_i l hl
        cases hc : (Nat.beq (P.cellsOf e) l.length && Nat.beq (P.cellsOf t) (m * l.length)) with
        | false => rw [hc, cond_false] at h; cases h
        | true =>
          rw [hc, cond_true] at h
          cases h
          simp only [Bool.and_eq_true] at hc
          have e1 := Nat.eq_of_beq_eq_true hc.1
          have e2 := Nat.eq_of_beq_eq_true hc.2
          obtain ⟨xs, q, _, _, hcl, hxl, hg⟩ := DataW.trod_array hk hy
          have := repL_ok (w := w) (cs := cs) (ks := l) rfl m fun i hi => by
            have h1 := hg i hi
            rw [e1, List.getElem?_eq_getElem (by omega)] at h1
            exact ckOf_ok d _ _ hl _ _ _ h1
          rwa [List.take_of_length_le (by omega)] at this
      · cases h
    · rename_i e hk
      split at h
      · rename_i ck hck
        split at h
        · rename_i l hl
          cases hc : (Nat.beq (P.cellsOf e) l.length && Nat.blt 0 l.length) with
          | false => rw [hc, cond_false] at h; cases h
          | true =>
            rw [hc, cond_true] at h
            cases h
            simp only [Bool.and_eq_true] at hc
            obtain ⟨v, xs, rfl, h1, h2⟩ := sl_open (en := fun r => enV r l 0) (ok := okV l) (z := l.length) (Nat.lt_of_succ_le (Nat.le_of_ble_eq_true hc.2)) (fun x => enV_length _ _ _) hk (Nat.eq_of_beq_eq_true hc.1)
              (fun n cs y _ hy => (ckOf_ok d _ _ hck _ _ _ hy).flat hl) hy
            exact .cons ⟨xs, h1, h2⟩ .nil
        · cases h
      · cases h
    · cases h
/-- An argument, opened. -/
theorem open_agg {t : TypeId} {r : Reach} {b0 : Nat} {v : Value} {d : DataW H} {p : List MemPlace} {dp : Nat} {ks : List CK} (hk : ckOf P dp t = some ks) (hs : (∃ fs, P.underlying t = some (.struct fs)) ∨ ∃ n e, P.underlying t = some (.array n e))
    (hval : Value.okWide P w r b0 t v) (h : DataW.Trod enc P w base spare held t v d p) : ∃ x : RowW, v = .agg (enW x ks 0).toArray ∧ okW w ks x := by
  obtain ⟨cs, rfl⟩ : ∃ cs, v = .agg cs := by
    rcases hs with ⟨fs, hs⟩ | ⟨n, e, hs⟩
    · obtain ⟨cs, h1, _⟩ := okWide_struct hs hval; exact ⟨cs, h1⟩
    · obtain ⟨cs, h1, _⟩ := okWide_arr hs hval; exact ⟨cs, h1⟩
  obtain ⟨fuel, hf⟩ := h
  have hm := ckOf_ok dp t ks hk _ _ _ hf
  obtain ⟨h1, h2⟩ := hm.row
  refine ⟨_, ?_, h2⟩
  rw [← h1]
  simp [Value.cells]
end
/-! ## Slices as tables -/
def tabV (xs : List RowV) : Tab := ⟨xs.length, fun j i => (xs.getD i RowV.zero).c j, fun j i => (xs.getD i RowV.zero).g j⟩
theorem rowCs_sl {c c' : Nat → Nat → Int} {g g' : Nat → Nat → Bool} {i i' : Nat} (hc : ∀ j, c j i = c' j i') (hg : ∀ j, g j i = g' j i') : ∀ (ks : List (Option IntKind)) (j : Nat), rowCs c g i ks j = rowCs c' g' i' ks j
  | [], _ => rfl
  | some k :: ks, j => by rw [rowCs, rowCs, hc j, rowCs_sl hc hg ks]
  | none :: ks, j => by rw [rowCs, rowCs, hg j, rowCs_sl hc hg ks]
theorem enV_rel {ρ : Env} {σ : Mp} (r : RowV) : ∀ (ks : List (Option IntKind)) (j : Nat), VRl ρ σ (rowCs (fun j _ => r.c j) (fun j _ => r.g j) 0 ks j) (enV r ks j)
  | [], _ => .nil
  | some k :: ks, j => .cons (.int k (.x (r.c j))) (enV_rel r ks (j + 1))
  | none :: ks, j => .cons (.bool (.x (r.g j))) (enV_rel r ks (j + 1))
theorem ArgAt.rows_eq {ρ : Env} {w : World} {n z : Nat} {f g : Nat → List CV} {hf : ∀ j, (f j).length = z ∧ (f j).all CV.flat = true} {hg : ∀ j, (g j).length = z ∧ (g j).all CV.flat = true} {lo : Option Loc} (e : f = g) (h : ArgAt ρ w ⟨.arg n z f hf, z, true, none⟩ lo) : ArgAt ρ w ⟨.arg n z g hg, z, true, none⟩ lo := by
  subst e; exact h
structure SlV where
  v : Value
  ks : List (Option IntKind)
  xs : List RowV
noncomputable def sigV (w : World) (S : List SlV) : Mp := fun b => match S[b]? with | some s => locOf w s.v s.ks.length | none => none
def heapV : Nat → List SlV → List (Nat × Blk)
  | _, [] => []
  | i, s :: l => (i, tabB s.ks (tabV s.xs)) :: heapV (i + 1) l
theorem sigV_none {w : World} {S : List SlV} {b : Nat} (h : S.length ≤ b) : sigV w S b = none := by
  unfold sigV; rw [List.getElem?_eq_none h]
theorem SlT.both {ρ : Env} {w : World} {S : List SlV} {b : Nat} {s : SlV} (hb : S[b]? = some s) (h : SlT s.ks w s.v s.xs) : VR ρ (sigV w S) (.sla b s.ks.length 0 s.xs.length) s.v ∧ ArgAt ρ w (tabB s.ks (tabV s.xs)) (sigV w S b) := by
  obtain ⟨h1, h2⟩ := SlR.rel (ρ := ρ) (σ := sigV w S) (b := b) (ec := fun r => rowCs (fun j _ => r.c j) (fun j _ => r.g j) 0 s.ks 0) (d := RowV.zero) h.1 (fun x => enV_length _ _ _) (fun σ x => enV_rel x s.ks 0) (fun j => rowCs_ok _ _ _ _ _) (by unfold sigV; rw [hb])
  have e : (fun j => rowCs (fun j' _ => (s.xs.getD j RowV.zero).c j') (fun j' _ => (s.xs.getD j RowV.zero).g j') 0 s.ks 0) = fun i => rowCs (tabV s.xs).c (tabV s.xs).g i s.ks 0 := funext fun i => rowCs_sl (c := fun j' _ => (s.xs.getD i RowV.zero).c j') (g := fun j' _ => (s.xs.getD i RowV.zero).g j') (fun _ => rfl) (fun _ => rfl) _ _
  have h3 := ArgAt.rows_eq (hg := fun i => rowCs_ok (tabV s.xs).c (tabV s.xs).g i s.ks 0) e h2
  exact ⟨h1, h3⟩
theorem SlT.rel {ρ : Env} {w : World} {S : List SlV} (b : Nat) {s : SlV} (hb : S[b]? = some s) (h : SlT s.ks w s.v s.xs) : VR ρ (sigV w S) (.sla b s.ks.length 0 s.xs.length) s.v := (h.both hb).1
theorem SlT.len {ks : List (Option IntKind)} {w : World} {v : Value} {xs : List RowV} (h : SlT ks w v xs) : xs.length ≤ 9223372036854775807 := by
  obtain ⟨⟨a, cap, _, _, hl, _⟩, _⟩ := h
  exact hl
theorem SlT.wf {ks : List (Option IntKind)} {w : World} {v : Value} {xs : List RowV} (h : SlT ks w v xs) (j : Nat) (k : IntKind) (hk : ks[j]? = some (some k)) (h0 : (Lit.int k 0).wf = true) (i : Nat) : (Lit.int k ((tabV xs).c j i)).wf = true := by
  show (Lit.int k ((xs.getD i RowV.zero).c j)).wf = true
  by_cases hi : i < xs.length
  · rw [List.getD_eq_getElem?_getD, List.getElem?_eq_getElem hi]
    exact h.2 _ (List.getElem_mem hi) j k hk
  · rw [List.getD_eq_getElem?_getD, List.getElem?_eq_none (by omega)]
    exact h0
theorem heapV_get {ρ : Env} {w : World} : ∀ (l : List SlV) (i : Nat) (S : List SlV), (∀ j s, l[j]? = some s → S[i + j]? = some s) → (∀ s ∈ l, SlT s.ks w s.v s.xs) → ∀ b k, (mkH (heapV i l)).get b = some k → ArgAt ρ w k (sigV w S b)
  | [], i, S, _, _, b, k, h => by
    simp only [heapV, mkH] at h
    cases h
  | s :: l, i, S, hS, hT, b, k, h => by
    have h : ((mkH (heapV (i + 1) l)).set i (tabB s.ks (tabV s.xs))).get b = some k := h
    rw [Tr.get_set] at h
    split at h
    · rename_i hb
      cases h
      have := hS 0 s rfl
      rw [Nat.add_zero] at this
      rw [hb]
      exact ((hT s (by simp)).both this).2
    · exact heapV_get l (i + 1) S (fun j s' hj => by rw [show i + 1 + j = i + (j + 1) by omega]; exact hS (j + 1) s' (by simpa using hj)) (fun s' hs => hT s' (by simp [hs])) b k h
theorem argsV {ρ : Env} {w : World} (S : List SlV) (base : Nat) (hS : ∀ s ∈ S, SlT s.ks w s.v s.xs) (hL : Laid w) : HR ρ (sigV w S) (curOf (mkH (heapV 0 S)) base) w :=
  HR.ofArgs hL fun i k _ hk => heapV_get S 0 S (fun j s h => by rw [Nat.zero_add]; exact h) hS i k hk
end Go.Proofs.Ythagjhadjpangaa.Cx

/- DieTurned holds, for all inputs: by its automaton. Made by tools/cxlaws.py. -/
namespace Go.Proofs.Ythagjhadjpangaa
set_option linter.unusedVariables false
set_option linter.unusedSimpArgs false
open Go.ChangeShapes Go.WideShapes Go.ChangeAt Go.RowKit
open Cx (Env IE BE DT KnownB)
set_option maxRecDepth 100000 in
theorem dturned_open0 {H : Type} {enc : TypeId × Value → H} {w : World} {base : Nat} {spare : Nat → Bool} {held : Bool} {r : Reach} {b0 : Nat} {vv : Value} {d : DataW H} {p : List MemPlace} (hval : Value.okWide Try.prog w r b0 79 vv) (h : DataW.Trod enc Try.prog w base spare held 79 vv d p) :
    ∃ y0 : Cx.RowW, vv = .agg #[.bool (y0.g 0), .int .u8 (y0.c 1), .int .u8 (y0.c 2), y0.s 3, y0.s 4, y0.s 5] ∧ Cx.okW w [.bool, .int .u8, .int .u8, .tab [some .u8, some .u8], .tab [some .u8, some .u8, some .u8, some .u8], .tab [some .u8]] y0 :=
  Cx.open_agg (ks := [.bool, .int .u8, .int .u8, .tab [some .u8, some .u8], .tab [some .u8, some .u8, some .u8, some .u8], .tab [some .u8]]) (dp := 12) (by kernel_rfl) (.inl ⟨_, Try.underlying79⟩) hval h
set_option maxRecDepth 100000 in
theorem dturned_open1 {H : Type} {enc : TypeId × Value → H} {w : World} {base : Nat} {spare : Nat → Bool} {held : Bool} {r : Reach} {b0 : Nat} {vv : Value} {d : DataW H} {p : List MemPlace} (hval : Value.okWide Try.prog w r b0 74 vv) (h : DataW.Trod enc Try.prog w base spare held 74 vv d p) :
    ∃ y1 : Cx.RowW, vv = .agg #[.int .u8 (y1.c 0), .int .u8 (y1.c 1)] ∧ Cx.okW w [.int .u8, .int .u8] y1 :=
  Cx.open_agg (ks := [.int .u8, .int .u8]) (dp := 12) (by kernel_rfl) (.inr ⟨_, _, Try.underlying74⟩) hval h
theorem dturned_walk (y0 : Cx.RowW) (y1 : Cx.RowW) (w : World) (g0 : Cx.okW w [.bool, .int .u8, .int .u8, .tab [some .u8, some .u8], .tab [some .u8, some .u8, some .u8, some .u8], .tab [some .u8]] y0) (g1 : Cx.okW w [.int .u8, .int .u8] y1) :
    Calls Try.prog 12 #[.agg #[.bool (y0.g 0), .int .u8 (y0.c 1), .int .u8 (y0.c 2), y0.s 3, y0.s 4, y0.s 5], .agg #[.int .u8 (y1.c 0), .int .u8 (y1.c 1)]] w fun e w' => e = .returned (.bool true) ∧ Below w.heap.size w w' := by
  have hLw : Cx.Laid w := fun _ h => by cases h
  obtain ⟨n, v, hv, hp⟩ := Cx.dly_run (y0.g 0) (y0.c 1) (y0.c 2) (Cx.tabV (y0.t 3)).n ((Cx.tabV (y0.t 3)).c 0) ((Cx.tabV (y0.t 3)).c 1) (Cx.tabV (y0.t 4)).n ((Cx.tabV (y0.t 4)).c 0) ((Cx.tabV (y0.t 4)).c 1) ((Cx.tabV (y0.t 4)).c 2) ((Cx.tabV (y0.t 4)).c 3) (Cx.tabV (y0.t 5)).n ((Cx.tabV (y0.t 5)).c 0) (y1.c 0) (y1.c 1) (rng_u8 (g0.1 1 .u8 rfl)) (rng_u8 (g0.1 2 .u8 rfl)) (Cx.SlT.len (g0.2 3 _ rfl)) (fun i => rng_u8 (Cx.SlT.wf (g0.2 3 _ rfl) 0 .u8 rfl rfl i)) (fun i => rng_u8 (Cx.SlT.wf (g0.2 3 _ rfl) 1 .u8 rfl rfl i)) (Cx.SlT.len (g0.2 4 _ rfl)) (fun i => rng_u8 (Cx.SlT.wf (g0.2 4 _ rfl) 0 .u8 rfl rfl i)) (fun i => rng_u8 (Cx.SlT.wf (g0.2 4 _ rfl) 1 .u8 rfl rfl i)) (fun i => rng_u8 (Cx.SlT.wf (g0.2 4 _ rfl) 2 .u8 rfl rfl i)) (fun i => rng_u8 (Cx.SlT.wf (g0.2 4 _ rfl) 3 .u8 rfl rfl i)) (Cx.SlT.len (g0.2 5 _ rfl)) (fun i => rng_u8 (Cx.SlT.wf (g0.2 5 _ rfl) 0 .u8 rfl rfl i)) (rng_u8 (g1.1 0 .u8 rfl)) (rng_u8 (g1.1 1 .u8 rfl))
  have hS : ∀ s ∈ ([⟨(y0.s 3), [some .u8, some .u8], (y0.t 3)⟩, ⟨(y0.s 4), [some .u8, some .u8, some .u8, some .u8], (y0.t 4)⟩, ⟨(y0.s 5), [some .u8], (y0.t 5)⟩] : List Cx.SlV), Cx.SlT s.ks w s.v s.xs := fun s hs => by
    simp only [List.mem_cons, List.not_mem_nil, or_false] at hs
    rcases hs with rfl | rfl | rfl
    · exact (g0.2 3 _ rfl)
    · exact (g0.2 4 _ rfl)
    · exact (g0.2 5 _ rfl)
  exact Cx.Ctr.law (ρ := ⟨fun _ => 0, fun _ => false⟩) (σ := Cx.sigV w ([⟨(y0.s 3), [some .u8, some .u8], (y0.t 3)⟩, ⟨(y0.s 4), [some .u8, some .u8, some .u8, some .u8], (y0.t 4)⟩, ⟨(y0.s 5), [some .u8], (y0.t 5)⟩] : List Cx.SlV)) (e := .x v) (Cx.dlyctr (y0.g 0) (y0.c 1) (y0.c 2) (Cx.tabV (y0.t 3)).n ((Cx.tabV (y0.t 3)).c 0) ((Cx.tabV (y0.t 3)).c 1) (Cx.tabV (y0.t 4)).n ((Cx.tabV (y0.t 4)).c 0) ((Cx.tabV (y0.t 4)).c 1) ((Cx.tabV (y0.t 4)).c 2) ((Cx.tabV (y0.t 4)).c 3) (Cx.tabV (y0.t 5)).n ((Cx.tabV (y0.t 5)).c 0) (y1.c 0) (y1.c 1) Cx.dlymem hv) hp (.cons (.agg (.cons (.bool (.x (y0.g 0))) (.cons (.int .u8 (.x (y0.c 1))) (.cons (.int .u8 (.x (y0.c 2))) (.cons (Cx.SlT.rel (S := ([⟨(y0.s 3), [some .u8, some .u8], (y0.t 3)⟩, ⟨(y0.s 4), [some .u8, some .u8, some .u8, some .u8], (y0.t 4)⟩, ⟨(y0.s 5), [some .u8], (y0.t 5)⟩] : List Cx.SlV)) 0 rfl (g0.2 3 _ rfl)) (.cons (Cx.SlT.rel (S := ([⟨(y0.s 3), [some .u8, some .u8], (y0.t 3)⟩, ⟨(y0.s 4), [some .u8, some .u8, some .u8, some .u8], (y0.t 4)⟩, ⟨(y0.s 5), [some .u8], (y0.t 5)⟩] : List Cx.SlV)) 1 rfl (g0.2 4 _ rfl)) (.cons (Cx.SlT.rel (S := ([⟨(y0.s 3), [some .u8, some .u8], (y0.t 3)⟩, ⟨(y0.s 4), [some .u8, some .u8, some .u8, some .u8], (y0.t 4)⟩, ⟨(y0.s 5), [some .u8], (y0.t 5)⟩] : List Cx.SlV)) 2 rfl (g0.2 5 _ rfl)) .nil))))))) (.cons (.agg (.cons (.int .u8 (.x (y1.c 0))) (.cons (.int .u8 (.x (y1.c 1))) .nil))) .nil)) (Cx.argsV ([⟨(y0.s 3), [some .u8, some .u8], (y0.t 3)⟩, ⟨(y0.s 4), [some .u8, some .u8, some .u8, some .u8], (y0.t 4)⟩, ⟨(y0.s 5), [some .u8], (y0.t 5)⟩] : List Cx.SlV) _ hS hLw) (fun b hb => Cx.sigV_none hb)
theorem dturned_own : ownKnob Try.prog.godebug = none := by kernel_rfl
theorem dturned_laidOut : laidOutB Try.prog = true := by kernel_rfl
set_option maxRecDepth 100000 in
theorem dturned_lifted (os : Os) (started : os.Started) (H : Type) (enc : TypeId × Value → H) :
    ReturnsInHanded {} Try.checked os 12 .any (Rows.dieTurnedSpec.pre6 enc Try.prog Try.f12 Rows.dieTurnedRow.domain false) (Rows.dieTurnedSpec.post enc Try.prog Try.f12 false true false false) := by
  refine returnsInHanded_of_change (C := Try.checked) dturned_own started (by kernel_rfl) Try.func12
    (ChangeSpec.witness6 (enc := enc) (C := Try.checked) false ⟨#[], #[.agg #[.bool false, .int .u8 0, .int .u8 0, .slice none 0 0, .slice none 0 0, .slice none 0 0], .agg #[.int .u8 0, .int .u8 0]], []⟩ 8 (by kernel_rfl) (by kernel_rfl) (by kernel_rfl) (by kernel_rfl)) ?_
  intro W base args ds gs before hval0 hW hcnd _
  have hval : ∀ (j : Nat) t v, Try.f12.params[j]? = some t → args[j]? = some v → Value.okWide Try.prog W .any base t v := hval0
  have hW' := hW
  obtain ⟨p, q, hA0, hV, rfl, hfz, hnd⟩ := hW
  have hA : DataW.TrodAll enc Try.prog W 0 (fun _ => true) true Try.f12.params.toList args.toList ds p := hA0
  rw [Try.params12] at hA hval
  obtain ⟨v0, vs0, d0, ds0, p0, q0, hargs, rfl, rfl, h0, r0⟩ := trodAll_cons hA
  obtain ⟨v1, vs1, d1, ds1, p1, q1, rfl, rfl, rfl, h1, r1⟩ := trodAll_cons r0
  obtain ⟨rfl, rfl, rfl⟩ := trodAll_nil r1
  obtain rfl : args = #[v0, v1] := by cases args; simp_all
  obtain ⟨rfl, rfl⟩ := trodVars_none hV
  have k0 := h0
  have lt0 : ∀ x ∈ p0, x.block < W.heap.size := by obtain ⟨m, hm⟩ := k0; exact DataW.trod_lt m _ _ _ hm
  have k1 := h1
  have lt1 : ∀ x ∈ p1, x.block < W.heap.size := by obtain ⟨m, hm⟩ := k1; exact DataW.trod_lt m _ _ _ hm
  obtain ⟨y0, rfl, g0⟩ := dturned_open0 (hval 0 79 v0 rfl rfl) h0
  obtain ⟨y1, rfl, g1⟩ := dturned_open1 (hval 1 74 v1 rfl rfl) h1
  clear hA0 hval0
  refine (dturned_walk y0 y1 W g0 g1).mono fun e W' ⟨he, bel⟩ => ?_
  subst he
  exact ⟨_, rfl, _, _, _, [], _, [], hW', trodAll_mk1 (shut_bool Try.underlying4 _), (trodAll_cons_mk (Below.trod dturned_laidOut (by kernel_rfl) (of_decide_eq_true (by kernel_rfl)) k0 bel lt0) (trodAll_cons_mk (Below.trod dturned_laidOut (by kernel_rfl) (of_decide_eq_true (by kernel_rfl)) k1 bel lt1) trodAll_mk0)), rfl, bel.frame _, fun h => by cases h⟩
theorem dturned_over : Rows.dieTurnedRow.holds Try.pinned (OpenSpec.ofChange Rows.dieTurnedSpec) :=
  OpenClaim.holds_of_wide 12 Try.f12 rfl rfl rfl rfl rfl rfl rfl ⟨rfl, rfl, rfl, rfl, rfl⟩ rfl rfl rfl rfl rfl (by kernel_rfl) Try.func12 (by kernel_rfl)
    (of_decide_eq_true (by kernel_rfl)) (by unfold Func.isWrapper; rw [if_neg (of_decide_eq_false (by kernel_rfl))]; exact ⟨rfl, rfl⟩)
    (fun os started H enc _ => dturned_lifted os started H enc)
theorem dturned_proved : Rows.DieTurnedSaid := dturned_over
#print axioms dturned_proved
end Go.Proofs.Ythagjhadjpangaa
