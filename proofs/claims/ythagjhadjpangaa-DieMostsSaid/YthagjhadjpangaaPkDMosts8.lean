/- acme/die.Most as an automaton. Made by tools/cxauto.py. -/
import Derived.Test.YthagjhadjpangaaPkDMosts7

namespace Go.Proofs.Ythagjhadjpangaa.Cx
set_option linter.unusedVariables false
set_option linter.unusedSimpArgs false
set_option maxRecDepth 100000
open Go Go.Proofs Go.RowKit
noncomputable abbrev dmoCode : Code := funcCode Try.f30
noncomputable abbrev dmos0Code : Code := funcCode Try.f92
inductive dmos0N where
  | n0 (q0 q1 : Int)
inductive dmos0R where
  | r0 (q0 q1 : Int)
  | r1 (q0 q1 : Int)
noncomputable def dmos0D0 (a0 : Bool) (a1 a2 a3 a4 : Int) (a5 : Nat) (a6 a7 : Nat → Int) (a8 : Nat) (a9 a10 a11 a12 : Nat → Int) (a13 : Int) (p0 : Bool) (p1 p2 p3 p4 : Int) (p5 p6 : Nat) (p7 : Int) : DD (Lf dmos0N dmos0R) :=
 .leaf (.next (.n0 0 a13) [])

noncomputable def dmos0D (a0 : Bool) (a1 a2 a3 a4 : Int) (a5 : Nat) (a6 a7 : Nat → Int) (a8 : Nat) (a9 a10 a11 a12 : Nat → Int) (a13 : Int) (p0 : Bool) (p1 p2 p3 p4 : Int) (p5 p6 : Nat) (p7 : Int) : dmos0N → DD (Lf dmos0N dmos0R)
 | .n0 q0 q1 =>
 let z0 := fun i => [CV.int IntKind.i64 (IE.x (a6 (0 + i))), CV.int IntKind.i64 (IE.x (a7 (0 + i)))]
 let z1 := fun i => [CV.int IntKind.i64 (IE.x (a9 (0 + i))), CV.int IntKind.i64 (IE.x (a10 (0 + i))), CV.int IntKind.i64 (IE.x (a11 (0 + i))), CV.int IntKind.i64 (IE.x (a12 (0 + i)))]
 let z2 := drcA p0 p1 p2 p3 p4 p5 (fun i => a6 (0 + i)) (fun i => a7 (0 + i)) p6 (fun i => a9 (0 + i)) (fun i => a10 (0 + i)) (fun i => a11 (0 + i)) (fun i => a12 (0 + i)) p7 (-10000000000) 20000000000 q0 p7
 let z3 := Prod.snd (Prod.snd (AF.val z2))
 .ask (Cm.run .lss q0 p7)
   (.must (decide (0 + p5 ≤ a5))
   (.must (ShapeOk [some IntKind.i64, some IntKind.i64] (tabOf p5 z0) z0)
   (.must (decide (0 + p6 ≤ a8))
   (.must (ShapeOk [some IntKind.i64, some IntKind.i64, some IntKind.i64, some IntKind.i64] (tabOf p6 z1) z1)
   (.must (AF.fin z2)
   (.ask (Cm.run .eql z3 q0)
   (.leaf (.done (.r0 q1 q0) []))
   (.ask (Cm.run .eql q1 0)
   (.leaf (.done (.r1 q1 q0) []))
   (.leaf (.next (.n0 z3 (Ar.run .sub .i64 q1 1)) [])))))))))
   (.leaf (.done (.r0 q1 q0) []))

noncomputable def dmos0A (a0 : Bool) (a1 a2 a3 a4 : Int) (a5 : Nat) (a6 a7 : Nat → Int) (a8 : Nat) (a9 a10 a11 a12 : Nat → Int) (a13 : Int) (p0 : Bool) (p1 p2 p3 p4 : Int) (p5 p6 : Nat) (p7 : Int) : AF dmos0N dmos0R where
  code := dmos0Code
  base := 6
  nt := 33
  m := 400
  un := []
  W := [2, 3, 5]
  h0 := ((5, recB (mkT [(5, .ptr (some (2, 0))), (10, .ptr (some (3, 0))), (27, .fn (.func 92) [] [.ptr (some (4, 0))])]) 36 (rgP (codeAt dmoCode [1, 1, 1, 1, 1, 0, 1, 0])) (rgA (codeAt dmoCode [1, 1, 1, 1, 1, 0, 1, 0])) (rgB (codeAt dmoCode [1, 1, 1, 1, 1, 0, 1, 0]))) :: (([(2, ⟨.lit [.int .i64 (.x a13)], 0, true, none⟩), (3, ⟨.lit [.int .i64 (.x 0)], 0, true, none⟩), (4, ⟨.lit [.bool (.x p0), .int .i64 (.x p1), .int .i64 (.x p2), .int .i64 (.x p3), .int .i64 (.x p4), .sla 0 2 0 p5, .sla 1 4 0 p6, .int .i64 (.x p7)], 0, true, none⟩)] ++ []) ++ [(0, ⟨.arg a5 2 (fun i => [.int .i64 (.x (a6 i)), .int .i64 (.x (a7 i))]) (fun _ => ⟨rfl, rfl⟩), 2, true, none⟩), (1, ⟨.arg a8 4 (fun i => [.int .i64 (.x (a9 i)), .int .i64 (.x (a10 i)), .int .i64 (.x (a11 i)), .int .i64 (.x (a12 i))]) (fun _ => ⟨rfl, rfl⟩), 4, true, none⟩)]))
  args := [.yld 5, .ptr (some (4, 0))]
  res := (Try.f92).results.toList
  path := fun a => match a with
   | .n0 q0 q1 => [1, 0]
  pd := fun a => match a with
   | .n0 q0 q1 => ⟨[(0, .yld 5), (1, .ptr (some (4, 0))), (3, .int .i64 (.x q0))], [(2, ⟨.lit [.int .i64 (.x q1)], 0, true, none⟩), (3, ⟨.lit [.int .i64 (.x q0)], 0, true, none⟩)], 6, [(5, recS (mkT [(5, .ptr (some (2, 0))), (10, .ptr (some (3, 0))), (27, .fn (.func 92) [] [.ptr (some (4, 0))])]) 36 (rgP (codeAt dmoCode [1, 1, 1, 1, 1, 0, 1, 0])) (rgA (codeAt dmoCode [1, 1, 1, 1, 1, 0, 1, 0])) (rgB (codeAt dmoCode [1, 1, 1, 1, 1, 0, 1, 0])) (.ready) (.none))]⟩
  D0 := dmos0D0 a0 a1 a2 a3 a4 a5 a6 a7 a8 a9 a10 a11 a12 a13 p0 p1 p2 p3 p4 p5 p6 p7
  D := dmos0D a0 a1 a2 a3 a4 a5 a6 a7 a8 a9 a10 a11 a12 a13 p0 p1 p2 p3 p4 p5 p6 p7
  rc := (fun v => match v with
 | .r0 q0 q1 => .tup []
 | .r1 q0 q1 => .tup [])
  rh := (fun v => match v with
 | .r0 q0 q1 => [(2, ⟨.lit [.int .i64 (.x q0)], 0, true, none⟩), (3, ⟨.lit [.int .i64 (.x q1)], 0, true, none⟩)]
 | .r1 q0 q1 => [(2, ⟨.lit [.int .i64 (.x q0)], 0, true, none⟩), (3, ⟨.lit [.int .i64 (.x q1)], 0, true, none⟩)])
  rn := (fun v => match v with
 | .r0 q0 q1 => 6
 | .r1 q0 q1 => 6)
  rx := (fun v => match v with
 | .r0 q0 q1 => [(5, recS (mkT [(5, .ptr (some (2, 0))), (10, .ptr (some (3, 0))), (27, .fn (.func 92) [] [.ptr (some (4, 0))])]) 36 (rgP (codeAt dmoCode [1, 1, 1, 1, 1, 0, 1, 0])) (rgA (codeAt dmoCode [1, 1, 1, 1, 1, 0, 1, 0])) (rgB (codeAt dmoCode [1, 1, 1, 1, 1, 0, 1, 0])) (.ready) (.none))]
 | .r1 q0 q1 => [(5, recS (mkT [(5, .ptr (some (2, 0))), (10, .ptr (some (3, 0))), (27, .fn (.func 92) [] [.ptr (some (4, 0))])]) 36 (rgP (codeAt dmoCode [1, 1, 1, 1, 1, 0, 1, 0])) (rgA (codeAt dmoCode [1, 1, 1, 1, 1, 0, 1, 0])) (rgB (codeAt dmoCode [1, 1, 1, 1, 1, 0, 1, 0])) (.done) ((.some (.exit 0))))])
  rgo := (fun _ => none)
theorem dmos0start (a0 : Bool) (a1 a2 a3 a4 : Int) (a5 : Nat) (a6 a7 : Nat → Int) (a8 : Nat) (a9 a10 a11 a12 : Nat → Int) (a13 : Int) (p0 : Bool) (p1 p2 p3 p4 : Int) (p5 p6 : Nat) (p7 : Int) : AF.edgeOk (dmos0A a0 a1 a2 a3 a4 a5 a6 a7 a8 a9 a10 a11 a12 a13 p0 p1 p2 p3 p4 p5 p6 p7) (ctxOf Try.prog memo0) (dmos0D0 a0 a1 a2 a3 a4 a5 a6 a7 a8 a9 a10 a11 a12 a13 p0 p1 p2 p3 p4 p5 p6 p7) (AF.run0 (dmos0A a0 a1 a2 a3 a4 a5 a6 a7 a8 a9 a10 a11 a12 a13 p0 p1 p2 p3 p4 p5 p6 p7) (ctxOf Try.prog (memoS 67 drcP drcF drcW drcH 2 (memoP 63 dshP dshF dshW dshH 2 memo0)))) := by unfold AF.edgeOk; kernel_rfl
theorem dmos0node0 (a0 : Bool) (a1 a2 a3 a4 : Int) (a5 : Nat) (a6 a7 : Nat → Int) (a8 : Nat) (a9 a10 a11 a12 : Nat → Int) (a13 : Int) (p0 : Bool) (p1 p2 p3 p4 : Int) (p5 p6 : Nat) (p7 q0 q1 : Int) : AF.edgeOk (dmos0A a0 a1 a2 a3 a4 a5 a6 a7 a8 a9 a10 a11 a12 a13 p0 p1 p2 p3 p4 p5 p6 p7) (ctxOf Try.prog memo0) (dmos0D a0 a1 a2 a3 a4 a5 a6 a7 a8 a9 a10 a11 a12 a13 p0 p1 p2 p3 p4 p5 p6 p7 (.n0 q0 q1)) (AF.runN (dmos0A a0 a1 a2 a3 a4 a5 a6 a7 a8 a9 a10 a11 a12 a13 p0 p1 p2 p3 p4 p5 p6 p7) (ctxOf Try.prog (memoS 67 drcP drcF drcW drcH 2 (memoP 63 dshP dshF dshW dshH 2 memo0))) (.n0 q0 q1)) := by unfold AF.edgeOk; kernel_rfl
theorem dmos0ok (a0 : Bool) (a1 a2 a3 a4 : Int) (a5 : Nat) (a6 a7 : Nat → Int) (a8 : Nat) (a9 a10 a11 a12 : Nat → Int) (a13 : Int) (p0 : Bool) (p1 p2 p3 p4 : Int) (p5 p6 : Nat) (p7 : Int) : (dmos0A a0 a1 a2 a3 a4 a5 a6 a7 a8 a9 a10 a11 a12 a13 p0 p1 p2 p3 p4 p5 p6 p7).Ok Try.prog (ctxOf Try.prog (memoS 67 drcP drcF drcW drcH 2 (memoP 63 dshP dshF dshW dshH 2 memo0))) where
  regs := by kernel_rfl
  h0 := by kernel_rfl
  start := dmos0start a0 a1 a2 a3 a4 a5 a6 a7 a8 a9 a10 a11 a12 a13 p0 p1 p2 p3 p4 p5 p6 p7
  node := fun a _ => match a with
   | .n0 q0 q1 => dmos0node0 a0 a1 a2 a3 a4 a5 a6 a7 a8 a9 a10 a11 a12 a13 p0 p1 p2 p3 p4 p5 p6 p7 q0 q1
  pd := fun a => match a with
   | .n0 q0 q1 => ⟨(fa_cons rfl (fa_cons rfl (fa_cons rfl fa_nil))), (fa_cons ⟨.inr (memW rfl), rfl, rfl⟩ (fa_cons ⟨.inr (memW rfl), rfl, rfl⟩ fa_nil)), (fa_cons ⟨memW rfl, RecOk.of rfl⟩ fa_nil), rfl⟩
  le := fun a => match a with
   | .n0 q0 q1 => Nat.le_of_ble_eq_true rfl
  rd := fun v => match v with
   | .r0 q0 q1 => ⟨⟨fa_nil, (fa_cons ⟨.inr (memW rfl), rfl, rfl⟩ (fa_cons ⟨.inr (memW rfl), rfl, rfl⟩ fa_nil)), (fa_cons ⟨memW rfl, RecOk.of rfl⟩ fa_nil), rfl⟩, rfl⟩
   | .r1 q0 q1 => ⟨⟨fa_nil, (fa_cons ⟨.inr (memW rfl), rfl, rfl⟩ (fa_cons ⟨.inr (memW rfl), rfl, rfl⟩ fa_nil)), (fa_cons ⟨memW rfl, RecOk.of rfl⟩ fa_nil), rfl⟩, rfl⟩
  wb := rfl
theorem dmos0hR {ρ : Env} (a0 : Bool) (a1 a2 a3 a4 : Int) (a5 : Nat) (a6 a7 : Nat → Int) (a8 : Nat) (a9 a10 a11 a12 : Nat → Int) (a13 : Int) (p0 : Bool) (p1 p2 p3 p4 : Int) (p5 p6 : Nat) (p7 : Int) (hM : MemoOk Try.prog (ctxOf Try.prog (memoS 67 drcP drcF drcW drcH 2 (memoP 63 dshP dshF dshW dshH 2 memo0))) ρ) : ∀ X a q n D, FxOk ρ X → X.base = (dmos0A a0 a1 a2 a3 a4 a5 a6 a7 a8 a9 a10 a11 a12 a13 p0 p1 p2 p3 p4 p5 p6 p7).base → X.nt = (dmos0A a0 a1 a2 a3 a4 a5 a6 a7 a8 a9 a10 a11 a12 a13 p0 p1 p2 p3 p4 p5 p6 p7).nt → X.W = (dmos0A a0 a1 a2 a3 a4 a5 a6 a7 a8 a9 a10 a11 a12 a13 p0 p1 p2 p3 p4 p5 p6 p7).W → (dmos0A a0 a1 a2 a3 a4 a5 a6 a7 a8 a9 a10 a11 a12 a13 p0 p1 p2 p3 p4 p5 p6 p7).rgo a = some q → q n = some D → (dmos0A a0 a1 a2 a3 a4 a5 a6 a7 a8 a9 a10 a11 a12 a13 p0 p1 p2 p3 p4 p5 p6 p7).RangeOk Try.prog ρ X a D := AF.noRange rfl
inductive dmoN where
  | n0 (p0 : Bool) (p1 p2 p3 p4 : Int) (p5 p6 : Nat) (p7 : Int)
abbrev dmoR := Int × Int
noncomputable def dmoD0 (a0 : Bool) (a1 a2 a3 a4 : Int) (a5 : Nat) (a6 a7 : Nat → Int) (a8 : Nat) (a9 a10 a11 a12 : Nat → Int) (a13 : Int) : DD (Lf dmoN dmoR) :=
 let z0 := fun i => [CV.int IntKind.i64 (IE.x (a6 (0 + i))), CV.int IntKind.i64 (IE.x (a7 (0 + i)))]
 let z1 := fun i => [CV.int IntKind.i64 (IE.x (a9 (0 + i))), CV.int IntKind.i64 (IE.x (a10 (0 + i))), CV.int IntKind.i64 (IE.x (a11 (0 + i))), CV.int IntKind.i64 (IE.x (a12 (0 + i)))]
 let z2 := dshA a0 a1 a2 a3 a4 a5 (fun i => a6 (0 + i)) (fun i => a7 (0 + i)) a8 (fun i => a9 (0 + i)) (fun i => a10 (0 + i)) (fun i => a11 (0 + i)) (fun i => a12 (0 + i))
 let z3 := AF.val z2
 .must (decide (0 + a5 ≤ a5))
   (.must (ShapeOk [some IntKind.i64, some IntKind.i64] (tabOf a5 z0) z0)
   (.must (decide (0 + a8 ≤ a8))
   (.must (ShapeOk [some IntKind.i64, some IntKind.i64, some IntKind.i64, some IntKind.i64] (tabOf a8 z1) z1)
   (.must (AF.fin z2)
   (.ask (Cm.run .neq (dshw8 z3) 0)
   (.leaf (.done (0, dshw8 z3) []))
   (.ask (Cm.run .lss a13 0)
   (.leaf (.done (0, 3) []))
   (.ask (Cm.run .gtr a13 1000)
   (.leaf (.done (0, 3) []))
   (.leaf (.next (.n0 (dshw0 z3) (dshw1 z3) (dshw2 z3) (dshw3 z3) (dshw4 z3) (dshw5 z3) (dshw6 z3) (dshw7 z3)) [3, 8, 9])))))))))

noncomputable def dmoD (a0 : Bool) (a1 a2 a3 a4 : Int) (a5 : Nat) (a6 a7 : Nat → Int) (a8 : Nat) (a9 a10 a11 a12 : Nat → Int) (a13 : Int) : dmoN → DD (Lf dmoN dmoR)
 | .n0 p0 p1 p2 p3 p4 p5 p6 p7 =>
 .dead

noncomputable def dmoRg0 (a0 : Bool) (a1 a2 a3 a4 : Int) (a5 : Nat) (a6 a7 : Nat → Int) (a8 : Nat) (a9 a10 a11 a12 : Nat → Int) (a13 : Int) (p0 : Bool) (p1 p2 p3 p4 : Int) (p5 p6 : Nat) (p7 : Int) : dmos0R → DD (Lf dmoN dmoR)
 | .r0 q0 q1 =>
 .leaf (.done (q1, 0) [])
 | .r1 q0 q1 =>
 .leaf (.done (q1, 0) [])

noncomputable def dmoA (a0 : Bool) (a1 a2 a3 a4 : Int) (a5 : Nat) (a6 a7 : Nat → Int) (a8 : Nat) (a9 a10 a11 a12 : Nat → Int) (a13 : Int) : AF dmoN dmoR where
  code := dmoCode
  base := 2
  nt := 36
  m := 400
  un := [1000008]
  W := []
  h0 := [(0, ⟨.arg a5 2 (fun i => [.int .i64 (.x (a6 i)), .int .i64 (.x (a7 i))]) (fun _ => ⟨rfl, rfl⟩), 2, true, none⟩), (1, ⟨.arg a8 4 (fun i => [.int .i64 (.x (a9 i)), .int .i64 (.x (a10 i)), .int .i64 (.x (a11 i)), .int .i64 (.x (a12 i))]) (fun _ => ⟨rfl, rfl⟩), 4, true, none⟩)]
  args := [.agg [.bool (.x a0), .int .i64 (.x a1), .int .i64 (.x a2), .int .i64 (.x a3), .int .i64 (.x a4), .sla 0 2 0 a5], .sla 1 4 0 a8, .int .i64 (.x a13)]
  res := (Try.f30).results.toList
  path := fun a => match a with
   | .n0 p0 p1 p2 p3 p4 p5 p6 p7 => [1, 1, 1, 1, 1, 0, 1, 0]
  pd := fun a => match a with
   | .n0 p0 p1 p2 p3 p4 p5 p6 p7 => ⟨[(5, .ptr (some (2, 0))), (10, .ptr (some (3, 0))), (27, .fn (.func 92) [] [.ptr (some (4, 0))])], [(2, ⟨.lit [.int .i64 (.x a13)], 0, true, none⟩), (3, ⟨.lit [.int .i64 (.x 0)], 0, true, none⟩), (4, ⟨.lit [.bool (.x p0), .int .i64 (.x p1), .int .i64 (.x p2), .int .i64 (.x p3), .int .i64 (.x p4), .sla 0 2 0 p5, .sla 1 4 0 p6, .int .i64 (.x p7)], 0, true, none⟩)], 5, []⟩
  D0 := dmoD0 a0 a1 a2 a3 a4 a5 a6 a7 a8 a9 a10 a11 a12 a13
  D := dmoD a0 a1 a2 a3 a4 a5 a6 a7 a8 a9 a10 a11 a12 a13
  rc := (fun v => .tup [.int .i64 (.x v.1), .int .i64 (.x v.2)])
  rh := (fun v => [])
  rn := (fun v => 2)
  rx := (fun v => [])
  rgo := (fun a => match a with
   | .n0 p0 p1 p2 p3 p4 p5 p6 p7 => some (fun n => (AF.run (dmos0A a0 a1 a2 a3 a4 a5 a6 a7 a8 a9 a10 a11 a12 a13 p0 p1 p2 p3 p4 p5 p6 p7) n).map (dmoRg0 a0 a1 a2 a3 a4 a5 a6 a7 a8 a9 a10 a11 a12 a13 p0 p1 p2 p3 p4 p5 p6 p7)))
theorem dmostart (a0 : Bool) (a1 a2 a3 a4 : Int) (a5 : Nat) (a6 a7 : Nat → Int) (a8 : Nat) (a9 a10 a11 a12 : Nat → Int) (a13 : Int) : AF.edgeOk (dmoA a0 a1 a2 a3 a4 a5 a6 a7 a8 a9 a10 a11 a12 a13) (ctxOf Try.prog memo0) (dmoD0 a0 a1 a2 a3 a4 a5 a6 a7 a8 a9 a10 a11 a12 a13) (AF.run0 (dmoA a0 a1 a2 a3 a4 a5 a6 a7 a8 a9 a10 a11 a12 a13) (ctxOf Try.prog (memoS 67 drcP drcF drcW drcH 2 (memoP 63 dshP dshF dshW dshH 2 memo0)))) := by unfold AF.edgeOk; kernel_rfl
theorem dmook (a0 : Bool) (a1 a2 a3 a4 : Int) (a5 : Nat) (a6 a7 : Nat → Int) (a8 : Nat) (a9 a10 a11 a12 : Nat → Int) (a13 : Int) : (dmoA a0 a1 a2 a3 a4 a5 a6 a7 a8 a9 a10 a11 a12 a13).Ok Try.prog (ctxOf Try.prog (memoS 67 drcP drcF drcW drcH 2 (memoP 63 dshP dshF dshW dshH 2 memo0))) where
  regs := by kernel_rfl
  h0 := by kernel_rfl
  start := dmostart a0 a1 a2 a3 a4 a5 a6 a7 a8 a9 a10 a11 a12 a13
  node := fun a h => match a, h with
   | .n0 p0 p1 p2 p3 p4 p5 p6 p7, h => someNe h
  pd := fun a => match a with
   | .n0 p0 p1 p2 p3 p4 p5 p6 p7 => ⟨(fa_cons rfl (fa_cons rfl (fa_cons rfl fa_nil))), (fa_cons ⟨.inl (Nat.le_of_ble_eq_true rfl), rfl, rfl⟩ (fa_cons ⟨.inl (Nat.le_of_ble_eq_true rfl), rfl, rfl⟩ (fa_cons ⟨.inl (Nat.le_of_ble_eq_true rfl), rfl, rfl⟩ fa_nil))), fa_nil, rfl⟩
  le := fun a => match a with
   | .n0 p0 p1 p2 p3 p4 p5 p6 p7 => Nat.le_of_ble_eq_true rfl
  rd := fun v => ⟨⟨fa_nil, fa_nil, fa_nil, rfl⟩, rfl⟩
  wb := rfl
theorem dmorg0_0 (a0 : Bool) (a1 a2 a3 a4 : Int) (a5 : Nat) (a6 a7 : Nat → Int) (a8 : Nat) (a9 a10 a11 a12 : Nat → Int) (a13 : Int) (p0 : Bool) (p1 p2 p3 p4 : Int) (p5 p6 : Nat) (p7 q0 q1 : Int) : AF.edgeOk (dmoA a0 a1 a2 a3 a4 a5 a6 a7 a8 a9 a10 a11 a12 a13) (ctxOf Try.prog memo0) (dmoRg0 a0 a1 a2 a3 a4 a5 a6 a7 a8 a9 a10 a11 a12 a13 p0 p1 p2 p3 p4 p5 p6 p7 (.r0 q0 q1)) (AF.runR (dmoA a0 a1 a2 a3 a4 a5 a6 a7 a8 a9 a10 a11 a12 a13) (ctxOf Try.prog (memoS 67 drcP drcF drcW drcH 2 (memoP 63 dshP dshF dshW dshH 2 memo0))) (.n0 p0 p1 p2 p3 p4 p5 p6 p7) (putH (dmos0A a0 a1 a2 a3 a4 a5 a6 a7 a8 a9 a10 a11 a12 a13 p0 p1 p2 p3 p4 p5 p6 p7).H0 ((dmos0A a0 a1 a2 a3 a4 a5 a6 a7 a8 a9 a10 a11 a12 a13 p0 p1 p2 p3 p4 p5 p6 p7).rh (.r0 q0 q1) ++ (dmos0A a0 a1 a2 a3 a4 a5 a6 a7 a8 a9 a10 a11 a12 a13 p0 p1 p2 p3 p4 p5 p6 p7).rx (.r0 q0 q1))) ((dmos0A a0 a1 a2 a3 a4 a5 a6 a7 a8 a9 a10 a11 a12 a13 p0 p1 p2 p3 p4 p5 p6 p7).rn (.r0 q0 q1)) ⟨mkT [(5, .ptr (some (2, 0))), (10, .ptr (some (3, 0))), (27, .fn (.func 92) [] [.ptr (some (4, 0))])], 36, rgP (codeAt dmoCode [1, 1, 1, 1, 1, 0, 1, 0]), rgA (codeAt dmoCode [1, 1, 1, 1, 1, 0, 1, 0]), rgB (codeAt dmoCode [1, 1, 1, 1, 1, 0, 1, 0]), .ready, .none⟩ .normal) := by unfold AF.edgeOk; kernel_rfl
theorem dmorg0_1 (a0 : Bool) (a1 a2 a3 a4 : Int) (a5 : Nat) (a6 a7 : Nat → Int) (a8 : Nat) (a9 a10 a11 a12 : Nat → Int) (a13 : Int) (p0 : Bool) (p1 p2 p3 p4 : Int) (p5 p6 : Nat) (p7 q0 q1 : Int) : AF.edgeOk (dmoA a0 a1 a2 a3 a4 a5 a6 a7 a8 a9 a10 a11 a12 a13) (ctxOf Try.prog memo0) (dmoRg0 a0 a1 a2 a3 a4 a5 a6 a7 a8 a9 a10 a11 a12 a13 p0 p1 p2 p3 p4 p5 p6 p7 (.r1 q0 q1)) (AF.runR (dmoA a0 a1 a2 a3 a4 a5 a6 a7 a8 a9 a10 a11 a12 a13) (ctxOf Try.prog (memoS 67 drcP drcF drcW drcH 2 (memoP 63 dshP dshF dshW dshH 2 memo0))) (.n0 p0 p1 p2 p3 p4 p5 p6 p7) (putH (dmos0A a0 a1 a2 a3 a4 a5 a6 a7 a8 a9 a10 a11 a12 a13 p0 p1 p2 p3 p4 p5 p6 p7).H0 ((dmos0A a0 a1 a2 a3 a4 a5 a6 a7 a8 a9 a10 a11 a12 a13 p0 p1 p2 p3 p4 p5 p6 p7).rh (.r1 q0 q1) ++ (dmos0A a0 a1 a2 a3 a4 a5 a6 a7 a8 a9 a10 a11 a12 a13 p0 p1 p2 p3 p4 p5 p6 p7).rx (.r1 q0 q1))) ((dmos0A a0 a1 a2 a3 a4 a5 a6 a7 a8 a9 a10 a11 a12 a13 p0 p1 p2 p3 p4 p5 p6 p7).rn (.r1 q0 q1)) ⟨mkT [(5, .ptr (some (2, 0))), (10, .ptr (some (3, 0))), (27, .fn (.func 92) [] [.ptr (some (4, 0))])], 36, rgP (codeAt dmoCode [1, 1, 1, 1, 1, 0, 1, 0]), rgA (codeAt dmoCode [1, 1, 1, 1, 1, 0, 1, 0]), rgB (codeAt dmoCode [1, 1, 1, 1, 1, 0, 1, 0]), .done, (.some (.exit 0))⟩ (.exit 0)) := by unfold AF.edgeOk; kernel_rfl
theorem dmorg0 (a0 : Bool) (a1 a2 a3 a4 : Int) (a5 : Nat) (a6 a7 : Nat → Int) (a8 : Nat) (a9 a10 a11 a12 : Nat → Int) (a13 : Int) (p0 : Bool) (p1 p2 p3 p4 : Int) (p5 p6 : Nat) (p7 : Int) : AF.Rg (dmoA a0 a1 a2 a3 a4 a5 a6 a7 a8 a9 a10 a11 a12 a13) (dmos0A a0 a1 a2 a3 a4 a5 a6 a7 a8 a9 a10 a11 a12 a13 p0 p1 p2 p3 p4 p5 p6 p7) Try.prog (ctxOf Try.prog (memoS 67 drcP drcF drcW drcH 2 (memoP 63 dshP dshF dshW dshH 2 memo0))) (ctxOf Try.prog (memoS 67 drcP drcF drcW drcH 2 (memoP 63 dshP dshF dshW dshH 2 memo0))) (.n0 p0 p1 p2 p3 p4 p5 p6 p7) (rgF (codeAt dmoCode [1, 1, 1, 1, 1, 0, 1, 0])) (rgP (codeAt dmoCode [1, 1, 1, 1, 1, 0, 1, 0])) (rgA (codeAt dmoCode [1, 1, 1, 1, 1, 0, 1, 0])) (rgB (codeAt dmoCode [1, 1, 1, 1, 1, 0, 1, 0])) 92 Try.f92 [] [.ptr (some (4, 0))] (fun v => match v with
   | .r0 q0 q1 => ⟨mkT [(5, .ptr (some (2, 0))), (10, .ptr (some (3, 0))), (27, .fn (.func 92) [] [.ptr (some (4, 0))])], 36, rgP (codeAt dmoCode [1, 1, 1, 1, 1, 0, 1, 0]), rgA (codeAt dmoCode [1, 1, 1, 1, 1, 0, 1, 0]), rgB (codeAt dmoCode [1, 1, 1, 1, 1, 0, 1, 0]), .ready, .none⟩
   | .r1 q0 q1 => ⟨mkT [(5, .ptr (some (2, 0))), (10, .ptr (some (3, 0))), (27, .fn (.func 92) [] [.ptr (some (4, 0))])], 36, rgP (codeAt dmoCode [1, 1, 1, 1, 1, 0, 1, 0]), rgA (codeAt dmoCode [1, 1, 1, 1, 1, 0, 1, 0]), rgB (codeAt dmoCode [1, 1, 1, 1, 1, 0, 1, 0]), .done, (.some (.exit 0))⟩) (fun v => match v with
   | .r0 q0 q1 => .normal
   | .r1 q0 q1 => (.exit 0)) (dmoRg0 a0 a1 a2 a3 a4 a5 a6 a7 a8 a9 a10 a11 a12 a13 p0 p1 p2 p3 p4 p5 p6 p7) where
  code := by kernel_rfl
  fn := by kernel_rfl
  args := rfl
  base := rfl
  h0 := rfl
  W := rfl
  gfn := Try.func92
  body := rfl
  nt := rfl
  len := Nat.le_of_ble_eq_true rfl
  res := rfl
  ok := dmos0ok a0 a1 a2 a3 a4 a5 a6 a7 a8 a9 a10 a11 a12 a13 p0 p1 p2 p3 p4 p5 p6 p7
  le := fun v => match v with
   | .r0 q0 q1 => Nat.le_of_ble_eq_true rfl
   | .r1 q0 q1 => Nat.le_of_ble_eq_true rfl
  lt := fun v => match v with
   | .r0 q0 q1 => rfl
   | .r1 q0 q1 => rfl
  rcd := fun v => match v with
   | .r0 q0 q1 => rfl
   | .r1 q0 q1 => rfl
  st := fun v => match v with
   | .r0 q0 q1 => (fun h => LoopState.noConfusion h)
   | .r1 q0 q1 => (fun h => LoopState.noConfusion h)
  exd := fun v => match v with
   | .r0 q0 q1 => rfl
   | .r1 q0 q1 => rfl
  D := fun v => match v with
   | .r0 q0 q1 => dmorg0_0 a0 a1 a2 a3 a4 a5 a6 a7 a8 a9 a10 a11 a12 a13 p0 p1 p2 p3 p4 p5 p6 p7 q0 q1
   | .r1 q0 q1 => dmorg0_1 a0 a1 a2 a3 a4 a5 a6 a7 a8 a9 a10 a11 a12 a13 p0 p1 p2 p3 p4 p5 p6 p7 q0 q1
theorem dmohR {ρ : Env} (a0 : Bool) (a1 a2 a3 a4 : Int) (a5 : Nat) (a6 a7 : Nat → Int) (a8 : Nat) (a9 a10 a11 a12 : Nat → Int) (a13 : Int) (hM : MemoOk Try.prog (ctxOf Try.prog (memoS 67 drcP drcF drcW drcH 2 (memoP 63 dshP dshF dshW dshH 2 memo0))) ρ) : ∀ X a q n D, FxOk ρ X → X.base = (dmoA a0 a1 a2 a3 a4 a5 a6 a7 a8 a9 a10 a11 a12 a13).base → X.nt = (dmoA a0 a1 a2 a3 a4 a5 a6 a7 a8 a9 a10 a11 a12 a13).nt → X.W = (dmoA a0 a1 a2 a3 a4 a5 a6 a7 a8 a9 a10 a11 a12 a13).W → (dmoA a0 a1 a2 a3 a4 a5 a6 a7 a8 a9 a10 a11 a12 a13).rgo a = some q → q n = some D → (dmoA a0 a1 a2 a3 a4 a5 a6 a7 a8 a9 a10 a11 a12 a13).RangeOk Try.prog ρ X a D := by
  intro X a q n D h1 h2 h3 h4 hq hD
  cases a with
  | n0 p0 p1 p2 p3 p4 p5 p6 p7 =>
    have e := Option.some.inj hq
    subst e
    exact AF.range_ok (n := n) try_ok hM hM (dmook a0 a1 a2 a3 a4 a5 a6 a7 a8 a9 a10 a11 a12 a13) (dmorg0 a0 a1 a2 a3 a4 a5 a6 a7 a8 a9 a10 a11 a12 a13 p0 p1 p2 p3 p4 p5 p6 p7) (dmos0hR a0 a1 a2 a3 a4 a5 a6 a7 a8 a9 a10 a11 a12 a13 p0 p1 p2 p3 p4 p5 p6 p7 hM) h1 h2 h3 h4 hD
theorem dmoctr {ρ : Env} (a0 : Bool) (a1 a2 a3 a4 : Int) (a5 : Nat) (a6 a7 : Nat → Int) (a8 : Nat) (a9 a10 a11 a12 : Nat → Int) (a13 : Int) {n : Nat} {v : dmoR} (hM : MemoOk Try.prog (ctxOf Try.prog (memoS 67 drcP drcF drcW drcH 2 (memoP 63 dshP dshF dshW dshH 2 memo0))) ρ) (hv : (dmoA a0 a1 a2 a3 a4 a5 a6 a7 a8 a9 a10 a11 a12 a13).run n = some v) :
    Ctr Try.prog ρ 30 (dmoA a0 a1 a2 a3 a4 a5 a6 a7 a8 a9 a10 a11 a12 a13).args (dmoA a0 a1 a2 a3 a4 a5 a6 a7 a8 a9 a10 a11 a12 a13).H0 (dmoA a0 a1 a2 a3 a4 a5 a6 a7 a8 a9 a10 a11 a12 a13).base (dmoA a0 a1 a2 a3 a4 a5 a6 a7 a8 a9 a10 a11 a12 a13).W ((dmoA a0 a1 a2 a3 a4 a5 a6 a7 a8 a9 a10 a11 a12 a13).rc v) (putH (dmoA a0 a1 a2 a3 a4 a5 a6 a7 a8 a9 a10 a11 a12 a13).H0 ((dmoA a0 a1 a2 a3 a4 a5 a6 a7 a8 a9 a10 a11 a12 a13).rh v ++ (dmoA a0 a1 a2 a3 a4 a5 a6 a7 a8 a9 a10 a11 a12 a13).rx v)) ((dmoA a0 a1 a2 a3 a4 a5 a6 a7 a8 a9 a10 a11 a12 a13).rn v) :=
  AF.ctr try_ok hM (dmook a0 a1 a2 a3 a4 a5 a6 a7 a8 a9 a10 a11 a12 a13) (fn := Try.f30) Try.func30 rfl rfl (Nat.le_of_ble_eq_true rfl) rfl (dmohR a0 a1 a2 a3 a4 a5 a6 a7 a8 a9 a10 a11 a12 a13 hM) hv
theorem dmomem {ρ : Env} : MemoOk Try.prog (ctxOf Try.prog (memoS 67 drcP drcF drcW drcH 2 (memoP 63 dshP dshF dshW dshH 2 memo0))) ρ := (memoS_ok (drcknown drcmem) (memoP_ok (dshknown dshmem) memo0_ok))
abbrev dmoP : List AQ := [.agg [.bool, .int .i64, .int .i64, .int .i64, .int .i64, .rows [some .i64, some .i64]], .rows [some .i64, some .i64, some .i64, some .i64], .int .i64]
noncomputable def dmoF (v : AW) : AF dmoN dmoR := dmoA (v.b.getD 0 false) (v.i.getD 0 0) (v.i.getD 1 0) (v.i.getD 2 0) (v.i.getD 3 0) (v.t.getD 0 .none).n ((v.t.getD 0 .none).c 0) ((v.t.getD 0 .none).c 1) (v.t.getD 1 .none).n ((v.t.getD 1 .none).c 0) ((v.t.getD 1 .none).c 1) ((v.t.getD 1 .none).c 2) ((v.t.getD 1 .none).c 3) (v.i.getD 4 0)
noncomputable def dmoW : dmoR → CV := fun v => .tup [.int .i64 (.x v.1), .int .i64 (.x v.2)]
noncomputable def dmoH : dmoR → List (Nat × Blk) := fun v => []
instance : Inhabited dmoR := ⟨(0, 0)⟩
theorem dmoknown {ρ : Env} (hM : MemoOk Try.prog (ctxOf Try.prog (memoS 67 drcP drcF drcW drcH 2 (memoP 63 dshP dshF dshW dshH 2 memo0))) ρ) : KnownS Try.prog ρ 30 dmoP dmoF dmoW dmoH 2 where
  fn := ⟨Try.f30, Try.func30, rfl⟩
  le := Nat.le_of_ble_eq_true rfl
  full := fun r => rfl
  rg := fun r => rfl
  hg := fun r => fa_nil
  ctr := fun v n r h => dmoctr (v.b.getD 0 false) (v.i.getD 0 0) (v.i.getD 1 0) (v.i.getD 2 0) (v.i.getD 3 0) (v.t.getD 0 .none).n ((v.t.getD 0 .none).c 0) ((v.t.getD 0 .none).c 1) (v.t.getD 1 .none).n ((v.t.getD 1 .none).c 0) ((v.t.getD 1 .none).c 1) ((v.t.getD 1 .none).c 2) ((v.t.getD 1 .none).c 3) (v.i.getD 4 0) hM h
end Go.Proofs.Ythagjhadjpangaa.Cx

/- acme/acmeref07.Fewest as an automaton. Made by tools/cxauto.py. -/
namespace Go.Proofs.Ythagjhadjpangaa.Cx
set_option linter.unusedVariables false
set_option linter.unusedSimpArgs false
set_option maxRecDepth 100000
open Go Go.Proofs Go.RowKit
noncomputable abbrev rdfCode : Code := funcCode Try.f74
inductive rdfN where
  | n0 (p0 : Nat) (p1 : Int) (p2 : Nat → Int)
  | n1 (p0 p1 : Nat) (p2 p3 p4 : Int) (p5 : Nat) (p6 : Nat → Int)
abbrev rdfR := Nat × (Nat → Int)
noncomputable def rdfD0 (a0 : Bool) (a1 a2 a3 a4 : Int) (a5 : Nat) (a6 a7 : Nat → Int) (a8 : Nat) (a9 a10 a11 a12 : Nat → Int) : DD (Lf rdfN rdfR) :=
 .leaf (.next (.n0 1 1 (fun i => 0)) [2, 3])

noncomputable def rdfD (a0 : Bool) (a1 a2 a3 a4 : Int) (a5 : Nat) (a6 a7 : Nat → Int) (a8 : Nat) (a9 a10 a11 a12 : Nat → Int) : rdfN → DD (Lf rdfN rdfR)
 | .n0 p0 p1 p2 =>
 let z0 := fun i => [CV.int IntKind.i64 (IE.x (a9 (0 + i))), CV.int IntKind.i64 (IE.x (a10 (0 + i))), CV.int IntKind.i64 (IE.x (a11 (0 + i))), CV.int IntKind.i64 (IE.x (a12 (0 + i)))]
 let z1 := rdaA a8 (fun i => a9 (0 + i)) (fun i => a10 (0 + i)) (fun i => a11 (0 + i)) (fun i => a12 (0 + i))
 .must (decide (0 + a8 ≤ a8))
   (.must (ShapeOk [some IntKind.i64, some IntKind.i64, some IntKind.i64, some IntKind.i64] (tabOf a8 z0) z0)
   (.must (AF.fin z1)
   (.ask (Cm.run .leq p1 (AF.val z1))
   (.leaf (.next (.n1 p0 p0 p1 1000000 (Ar.run .sub .i64 p1 1) p0 (fun i => p2 i)) [2, 3]))
   (.leaf (.done (p0, (fun i => p2 i)) [3])))))
 | .n1 p0 p1 p2 p3 p4 p5 p6 =>
 let z0 := decide (0 ≤ p4)
 let z1 := decide (0 + Int.toNat p4 < p5)
 let z2 := p6 (0 + Int.toNat p4)
 let z3 := fun i => [CV.int IntKind.i64 (IE.x (a6 (0 + i))), CV.int IntKind.i64 (IE.x (a7 (0 + i)))]
 let z4 := fun i => [CV.int IntKind.i64 (IE.x (a9 (0 + i))), CV.int IntKind.i64 (IE.x (a10 (0 + i))), CV.int IntKind.i64 (IE.x (a11 (0 + i))), CV.int IntKind.i64 (IE.x (a12 (0 + i)))]
 let z5 := rdtA a0 a1 a2 a3 a4 a5 (fun i => a6 (0 + i)) (fun i => a7 (0 + i)) a8 (fun i => a9 (0 + i)) (fun i => a10 (0 + i)) (fun i => a11 (0 + i)) (fun i => a12 (0 + i)) p4 p2
 let z6 := AF.val z5
 let z7 := Ar.run .sub .i64 p4 1
 .ask (Cm.run .geq p4 0)
   (.must z0
   (.must (decide (p4 < (↑p0 : Int)))
   (.must z1
   (.ask (Cm.run .lss z2 1000000)
   (.must (decide (0 + a5 ≤ a5))
   (.must (ShapeOk [some IntKind.i64, some IntKind.i64] (tabOf a5 z3) z3)
   (.must (decide (0 + a8 ≤ a8))
   (.must (ShapeOk [some IntKind.i64, some IntKind.i64, some IntKind.i64, some IntKind.i64] (tabOf a8 z4) z4)
   (.must (AF.fin z5)
   (.ask (Cm.run .leq (Prod.fst z6) (Prod.snd z6))
   (.must z0
   (.must (decide (p4 < (↑p0 : Int)))
   (.must z1
   (.leaf (.next (.n1 p0 p1 p2 (Ar.run .mn .i64 p3 (Ar.run .add .i64 z2 1)) z7 p5 (fun i => p6 i)) [2, 3])))))
   (.leaf (.next (.n1 p0 p1 p2 p3 z7 p5 (fun i => p6 i)) [2, 3]))))))))
   (.leaf (.next (.n1 p0 p1 p2 p3 z7 p5 (fun i => p6 i)) [2, 3]))))))
   (.must (decide (0 + p0 ≤ p5))
   (.must (decide (p0 + 1 ≤ 10000))
   (.leaf (.next (.n0 (p0 + 1) (Ar.run .add .i64 p2 1) (fun i => bif Nat.blt i p0 then p6 (0 + i) else p3)) [2, 5]))))

noncomputable def rdfA (a0 : Bool) (a1 a2 a3 a4 : Int) (a5 : Nat) (a6 a7 : Nat → Int) (a8 : Nat) (a9 a10 a11 a12 : Nat → Int) : AF rdfN rdfR where
  code := rdfCode
  base := 2
  nt := 46
  m := 400
  un := []
  W := []
  h0 := [(0, ⟨.arg a5 2 (fun i => [.int .i64 (.x (a6 i)), .int .i64 (.x (a7 i))]) (fun _ => ⟨rfl, rfl⟩), 2, true, none⟩), (1, ⟨.arg a8 4 (fun i => [.int .i64 (.x (a9 i)), .int .i64 (.x (a10 i)), .int .i64 (.x (a11 i)), .int .i64 (.x (a12 i))]) (fun _ => ⟨rfl, rfl⟩), 4, true, none⟩)]
  args := [.agg [.bool (.x a0), .int .i64 (.x a1), .int .i64 (.x a2), .int .i64 (.x a3), .int .i64 (.x a4), .sla 0 2 0 a5], .sla 1 4 0 a8]
  res := (Try.f74).results.toList
  path := fun a => match a with
   | .n0 p0 p1 p2 => [1, 1, 0, 1, 0]
   | .n1 p0 p1 p2 p3 p4 p5 p6 => [1, 1, 0, 1, 0, 0, 1, 0, 0, 1, 0, 1, 0]
  pd := fun a => match a with
   | .n0 p0 p1 p2 => ⟨[(1, .sla 1 4 0 a8), (2, .ptr (some (2, 0))), (5, .slx 3 1 0 p0 p0), (6, .int .i64 (.x p1))], [(2, ⟨.lit [.bool (.x a0), .int .i64 (.x a1), .int .i64 (.x a2), .int .i64 (.x a3), .int .i64 (.x a4), .sla 0 2 0 a5], 0, true, none⟩), (3, ⟨.rows p0 1 (fun i => [.int .i64 (.x (p2 i))]) (fun _ => ⟨rfl, rfl⟩), 1, true, none⟩)], 4, []⟩
   | .n1 p0 p1 p2 p3 p4 p5 p6 => ⟨[(1, .sla 1 4 0 a8), (2, .ptr (some (2, 0))), (5, .slx 3 1 0 p0 p1), (6, .int .i64 (.x p2)), (7, .int .i64 (.x p3)), (8, .int .i64 (.x p4))], [(2, ⟨.lit [.bool (.x a0), .int .i64 (.x a1), .int .i64 (.x a2), .int .i64 (.x a3), .int .i64 (.x a4), .sla 0 2 0 a5], 0, true, none⟩), (3, ⟨.rows p5 1 (fun i => [.int .i64 (.x (p6 i))]) (fun _ => ⟨rfl, rfl⟩), 1, true, none⟩)], 4, []⟩
  D0 := rdfD0 a0 a1 a2 a3 a4 a5 a6 a7 a8 a9 a10 a11 a12
  D := rdfD a0 a1 a2 a3 a4 a5 a6 a7 a8 a9 a10 a11 a12
  rc := (fun v => .slx 2 1 0 v.1 v.1)
  rh := (fun v => [(2, ⟨.rows v.1 1 (fun i => [.int .i64 (.x (v.2 i))]) (fun _ => ⟨rfl, rfl⟩), 1, true, none⟩)])
  rn := (fun v => 3)
  rx := (fun v => [])
  rgo := (fun _ => none)
theorem rdfstart (a0 : Bool) (a1 a2 a3 a4 : Int) (a5 : Nat) (a6 a7 : Nat → Int) (a8 : Nat) (a9 a10 a11 a12 : Nat → Int) : AF.edgeOk (rdfA a0 a1 a2 a3 a4 a5 a6 a7 a8 a9 a10 a11 a12) (ctxOf Try.prog memo0) (rdfD0 a0 a1 a2 a3 a4 a5 a6 a7 a8 a9 a10 a11 a12) (AF.run0 (rdfA a0 a1 a2 a3 a4 a5 a6 a7 a8 a9 a10 a11 a12) (ctxOf Try.prog (memoS 22 rdaP rdaF rdaW rdaH 1 (memoS 24 rdtP rdtF rdtW rdtH 2 memo0)))) := by unfold AF.edgeOk; kernel_rfl
theorem rdfnode0 (a0 : Bool) (a1 a2 a3 a4 : Int) (a5 : Nat) (a6 a7 : Nat → Int) (a8 : Nat) (a9 a10 a11 a12 : Nat → Int) (p0 : Nat) (p1 : Int) (p2 : Nat → Int) : AF.edgeOk (rdfA a0 a1 a2 a3 a4 a5 a6 a7 a8 a9 a10 a11 a12) (ctxOf Try.prog memo0) (rdfD a0 a1 a2 a3 a4 a5 a6 a7 a8 a9 a10 a11 a12 (.n0 p0 p1 p2)) (AF.runN (rdfA a0 a1 a2 a3 a4 a5 a6 a7 a8 a9 a10 a11 a12) (ctxOf Try.prog (memoS 22 rdaP rdaF rdaW rdaH 1 (memoS 24 rdtP rdtF rdtW rdtH 2 memo0))) (.n0 p0 p1 p2)) := by unfold AF.edgeOk; kernel_rfl
theorem rdfnode1 (a0 : Bool) (a1 a2 a3 a4 : Int) (a5 : Nat) (a6 a7 : Nat → Int) (a8 : Nat) (a9 a10 a11 a12 : Nat → Int) (p0 p1 : Nat) (p2 p3 p4 : Int) (p5 : Nat) (p6 : Nat → Int) : AF.edgeOk (rdfA a0 a1 a2 a3 a4 a5 a6 a7 a8 a9 a10 a11 a12) (ctxOf Try.prog memo0) (rdfD a0 a1 a2 a3 a4 a5 a6 a7 a8 a9 a10 a11 a12 (.n1 p0 p1 p2 p3 p4 p5 p6)) (AF.runN (rdfA a0 a1 a2 a3 a4 a5 a6 a7 a8 a9 a10 a11 a12) (ctxOf Try.prog (memoS 22 rdaP rdaF rdaW rdaH 1 (memoS 24 rdtP rdtF rdtW rdtH 2 memo0))) (.n1 p0 p1 p2 p3 p4 p5 p6)) := by unfold AF.edgeOk; kernel_rfl
theorem rdfok (a0 : Bool) (a1 a2 a3 a4 : Int) (a5 : Nat) (a6 a7 : Nat → Int) (a8 : Nat) (a9 a10 a11 a12 : Nat → Int) : (rdfA a0 a1 a2 a3 a4 a5 a6 a7 a8 a9 a10 a11 a12).Ok Try.prog (ctxOf Try.prog (memoS 22 rdaP rdaF rdaW rdaH 1 (memoS 24 rdtP rdtF rdtW rdtH 2 memo0))) where
  regs := by kernel_rfl
  h0 := by kernel_rfl
  start := rdfstart a0 a1 a2 a3 a4 a5 a6 a7 a8 a9 a10 a11 a12
  node := fun a _ => match a with
   | .n0 p0 p1 p2 => rdfnode0 a0 a1 a2 a3 a4 a5 a6 a7 a8 a9 a10 a11 a12 p0 p1 p2
   | .n1 p0 p1 p2 p3 p4 p5 p6 => rdfnode1 a0 a1 a2 a3 a4 a5 a6 a7 a8 a9 a10 a11 a12 p0 p1 p2 p3 p4 p5 p6
  pd := fun a => match a with
   | .n0 p0 p1 p2 => ⟨(fa_cons rfl (fa_cons rfl (fa_cons rfl (fa_cons rfl fa_nil)))), (fa_cons ⟨.inl (Nat.le_of_ble_eq_true rfl), rfl, rfl⟩ (fa_cons ⟨.inl (Nat.le_of_ble_eq_true rfl), (fun _ => rfl), rfl⟩ fa_nil)), fa_nil, rfl⟩
   | .n1 p0 p1 p2 p3 p4 p5 p6 => ⟨(fa_cons rfl (fa_cons rfl (fa_cons rfl (fa_cons rfl (fa_cons rfl (fa_cons rfl fa_nil)))))), (fa_cons ⟨.inl (Nat.le_of_ble_eq_true rfl), rfl, rfl⟩ (fa_cons ⟨.inl (Nat.le_of_ble_eq_true rfl), (fun _ => rfl), rfl⟩ fa_nil)), fa_nil, rfl⟩
  le := fun a => match a with
   | .n0 p0 p1 p2 => Nat.le_of_ble_eq_true rfl
   | .n1 p0 p1 p2 p3 p4 p5 p6 => Nat.le_of_ble_eq_true rfl
  rd := fun v => ⟨⟨fa_nil, (fa_cons ⟨.inl (Nat.le_of_ble_eq_true rfl), (fun _ => rfl), rfl⟩ fa_nil), fa_nil, rfl⟩, rfl⟩
  wb := rfl
theorem rdfhR {ρ : Env} (a0 : Bool) (a1 a2 a3 a4 : Int) (a5 : Nat) (a6 a7 : Nat → Int) (a8 : Nat) (a9 a10 a11 a12 : Nat → Int) (hM : MemoOk Try.prog (ctxOf Try.prog (memoS 22 rdaP rdaF rdaW rdaH 1 (memoS 24 rdtP rdtF rdtW rdtH 2 memo0))) ρ) : ∀ X a q n D, FxOk ρ X → X.base = (rdfA a0 a1 a2 a3 a4 a5 a6 a7 a8 a9 a10 a11 a12).base → X.nt = (rdfA a0 a1 a2 a3 a4 a5 a6 a7 a8 a9 a10 a11 a12).nt → X.W = (rdfA a0 a1 a2 a3 a4 a5 a6 a7 a8 a9 a10 a11 a12).W → (rdfA a0 a1 a2 a3 a4 a5 a6 a7 a8 a9 a10 a11 a12).rgo a = some q → q n = some D → (rdfA a0 a1 a2 a3 a4 a5 a6 a7 a8 a9 a10 a11 a12).RangeOk Try.prog ρ X a D := AF.noRange rfl
theorem rdfctr {ρ : Env} (a0 : Bool) (a1 a2 a3 a4 : Int) (a5 : Nat) (a6 a7 : Nat → Int) (a8 : Nat) (a9 a10 a11 a12 : Nat → Int) {n : Nat} {v : rdfR} (hM : MemoOk Try.prog (ctxOf Try.prog (memoS 22 rdaP rdaF rdaW rdaH 1 (memoS 24 rdtP rdtF rdtW rdtH 2 memo0))) ρ) (hv : (rdfA a0 a1 a2 a3 a4 a5 a6 a7 a8 a9 a10 a11 a12).run n = some v) :
    Ctr Try.prog ρ 74 (rdfA a0 a1 a2 a3 a4 a5 a6 a7 a8 a9 a10 a11 a12).args (rdfA a0 a1 a2 a3 a4 a5 a6 a7 a8 a9 a10 a11 a12).H0 (rdfA a0 a1 a2 a3 a4 a5 a6 a7 a8 a9 a10 a11 a12).base (rdfA a0 a1 a2 a3 a4 a5 a6 a7 a8 a9 a10 a11 a12).W ((rdfA a0 a1 a2 a3 a4 a5 a6 a7 a8 a9 a10 a11 a12).rc v) (putH (rdfA a0 a1 a2 a3 a4 a5 a6 a7 a8 a9 a10 a11 a12).H0 ((rdfA a0 a1 a2 a3 a4 a5 a6 a7 a8 a9 a10 a11 a12).rh v ++ (rdfA a0 a1 a2 a3 a4 a5 a6 a7 a8 a9 a10 a11 a12).rx v)) ((rdfA a0 a1 a2 a3 a4 a5 a6 a7 a8 a9 a10 a11 a12).rn v) :=
  AF.ctr try_ok hM (rdfok a0 a1 a2 a3 a4 a5 a6 a7 a8 a9 a10 a11 a12) (fn := Try.f74) Try.func74 rfl rfl (Nat.le_of_ble_eq_true rfl) rfl (rdfhR a0 a1 a2 a3 a4 a5 a6 a7 a8 a9 a10 a11 a12 hM) hv
theorem rdfmem {ρ : Env} : MemoOk Try.prog (ctxOf Try.prog (memoS 22 rdaP rdaF rdaW rdaH 1 (memoS 24 rdtP rdtF rdtW rdtH 2 memo0))) ρ := (memoS_ok (rdaknown rdamem) (memoS_ok (rdtknown rdtmem) memo0_ok))
abbrev rdfP : List AQ := [.agg [.bool, .int .i64, .int .i64, .int .i64, .int .i64, .rows [some .i64, some .i64]], .rows [some .i64, some .i64, some .i64, some .i64]]
noncomputable def rdfF (v : AW) : AF rdfN rdfR := rdfA (v.b.getD 0 false) (v.i.getD 0 0) (v.i.getD 1 0) (v.i.getD 2 0) (v.i.getD 3 0) (v.t.getD 0 .none).n ((v.t.getD 0 .none).c 0) ((v.t.getD 0 .none).c 1) (v.t.getD 1 .none).n ((v.t.getD 1 .none).c 0) ((v.t.getD 1 .none).c 1) ((v.t.getD 1 .none).c 2) ((v.t.getD 1 .none).c 3)
noncomputable def rdfW : rdfR → CV := fun v => .slx 2 1 0 v.1 v.1
noncomputable def rdfH : rdfR → List (Nat × Blk) := fun v => [(2, ⟨.rows v.1 1 (fun i => [.int .i64 (.x (v.2 i))]) (fun _ => ⟨rfl, rfl⟩), 1, true, none⟩)]
instance : Inhabited rdfR := ⟨(0, fun _ => 0)⟩
theorem rdfknown {ρ : Env} (hM : MemoOk Try.prog (ctxOf Try.prog (memoS 22 rdaP rdaF rdaW rdaH 1 (memoS 24 rdtP rdtF rdtW rdtH 2 memo0))) ρ) : KnownS Try.prog ρ 74 rdfP rdfF rdfW rdfH 3 where
  fn := ⟨Try.f74, Try.func74, rfl⟩
  le := Nat.le_of_ble_eq_true rfl
  full := fun r => rfl
  rg := fun r => rfl
  hg := fun r => (fa_cons ⟨(fun _ => rfl), rfl⟩ fa_nil)
  ctr := fun v n r h => rdfctr (v.b.getD 0 false) (v.i.getD 0 0) (v.i.getD 1 0) (v.i.getD 2 0) (v.i.getD 3 0) (v.t.getD 0 .none).n ((v.t.getD 0 .none).c 0) ((v.t.getD 0 .none).c 1) (v.t.getD 1 .none).n ((v.t.getD 1 .none).c 0) ((v.t.getD 1 .none).c 1) ((v.t.getD 1 .none).c 2) ((v.t.getD 1 .none).c 3) hM h
end Go.Proofs.Ythagjhadjpangaa.Cx

/- acme/acmeref07.Most as an automaton. Made by tools/cxauto.py. -/
namespace Go.Proofs.Ythagjhadjpangaa.Cx
set_option linter.unusedVariables false
set_option linter.unusedSimpArgs false
set_option maxRecDepth 100000
open Go Go.Proofs Go.RowKit
noncomputable abbrev rdmCode : Code := funcCode Try.f31
inductive rdmN where
  | n0 (p0 p1 : Nat) (p2 p3 : Int) (p4 : Nat) (p5 : Nat → Int)
abbrev rdmR := Int
noncomputable def rdmD0 (a0 : Bool) (a1 a2 a3 a4 : Int) (a5 : Nat) (a6 a7 : Nat → Int) (a8 : Nat) (a9 a10 a11 a12 : Nat → Int) (a13 : Int) : DD (Lf rdmN rdmR) :=
 let z0 := fun i => [CV.int IntKind.i64 (IE.x (a6 (0 + i))), CV.int IntKind.i64 (IE.x (a7 (0 + i)))]
 let z1 := fun i => [CV.int IntKind.i64 (IE.x (a9 (0 + i))), CV.int IntKind.i64 (IE.x (a10 (0 + i))), CV.int IntKind.i64 (IE.x (a11 (0 + i))), CV.int IntKind.i64 (IE.x (a12 (0 + i)))]
 let z2 := rdfA a0 a1 a2 a3 a4 a5 (fun i => a6 (0 + i)) (fun i => a7 (0 + i)) a8 (fun i => a9 (0 + i)) (fun i => a10 (0 + i)) (fun i => a11 (0 + i)) (fun i => a12 (0 + i))
 let z3 := AF.val z2
 let z4 := Prod.fst z3
 .must (decide (0 + a5 ≤ a5))
   (.must (ShapeOk [some IntKind.i64, some IntKind.i64] (tabOf a5 z0) z0)
   (.must (decide (0 + a8 ≤ a8))
   (.must (ShapeOk [some IntKind.i64, some IntKind.i64, some IntKind.i64, some IntKind.i64] (tabOf a8 z1) z1)
   (.must (AF.fin z2)
   (.leaf (.next (.n0 z4 z4 0 0 z4 (fun i => Prod.snd z3 i)) [3]))))))

noncomputable def rdmD (a0 : Bool) (a1 a2 a3 a4 : Int) (a5 : Nat) (a6 a7 : Nat → Int) (a8 : Nat) (a9 a10 a11 a12 : Nat → Int) (a13 : Int) : rdmN → DD (Lf rdmN rdmR)
 | .n0 p0 p1 p2 p3 p4 p5 =>
 let z0 := Ar.run .add .i64 p3 1
 .ask (Cm.run .lss p3 (↑p0 : Int))
   (.must (decide (0 ≤ p3))
   (.must (decide (p3 < (↑p0 : Int)))
   (.must (decide (0 + Int.toNat p3 < p4))
   (.ask (Cm.run .leq (p5 (0 + Int.toNat p3)) a13)
   (.leaf (.next (.n0 p0 p1 p3 z0 p4 (fun i => p5 i)) [2]))
   (.leaf (.next (.n0 p0 p1 p2 z0 p4 (fun i => p5 i)) [2]))))))
   (.leaf (.done p2 []))

noncomputable def rdmA (a0 : Bool) (a1 a2 a3 a4 : Int) (a5 : Nat) (a6 a7 : Nat → Int) (a8 : Nat) (a9 a10 a11 a12 : Nat → Int) (a13 : Int) : AF rdmN rdmR where
  code := rdmCode
  base := 2
  nt := 27
  m := 400
  un := []
  W := []
  h0 := [(0, ⟨.arg a5 2 (fun i => [.int .i64 (.x (a6 i)), .int .i64 (.x (a7 i))]) (fun _ => ⟨rfl, rfl⟩), 2, true, none⟩), (1, ⟨.arg a8 4 (fun i => [.int .i64 (.x (a9 i)), .int .i64 (.x (a10 i)), .int .i64 (.x (a11 i)), .int .i64 (.x (a12 i))]) (fun _ => ⟨rfl, rfl⟩), 4, true, none⟩)]
  args := [.agg [.bool (.x a0), .int .i64 (.x a1), .int .i64 (.x a2), .int .i64 (.x a3), .int .i64 (.x a4), .sla 0 2 0 a5], .sla 1 4 0 a8, .int .i64 (.x a13)]
  res := (Try.f31).results.toList
  path := fun a => match a with
   | .n0 p0 p1 p2 p3 p4 p5 => [1, 1, 0, 1, 0]
  pd := fun a => match a with
   | .n0 p0 p1 p2 p3 p4 p5 => ⟨[(2, .int .i64 (.x a13)), (7, .slx 2 1 0 p0 p1), (8, .int .i64 (.x p2)), (9, .int .i64 (.x p3))], [(2, ⟨.rows p4 1 (fun i => [.int .i64 (.x (p5 i))]) (fun _ => ⟨rfl, rfl⟩), 1, true, none⟩)], 3, []⟩
  D0 := rdmD0 a0 a1 a2 a3 a4 a5 a6 a7 a8 a9 a10 a11 a12 a13
  D := rdmD a0 a1 a2 a3 a4 a5 a6 a7 a8 a9 a10 a11 a12 a13
  rc := (fun v => .int .i64 (.x v))
  rh := (fun v => [])
  rn := (fun v => 2)
  rx := (fun v => [])
  rgo := (fun _ => none)
theorem rdmstart (a0 : Bool) (a1 a2 a3 a4 : Int) (a5 : Nat) (a6 a7 : Nat → Int) (a8 : Nat) (a9 a10 a11 a12 : Nat → Int) (a13 : Int) : AF.edgeOk (rdmA a0 a1 a2 a3 a4 a5 a6 a7 a8 a9 a10 a11 a12 a13) (ctxOf Try.prog memo0) (rdmD0 a0 a1 a2 a3 a4 a5 a6 a7 a8 a9 a10 a11 a12 a13) (AF.run0 (rdmA a0 a1 a2 a3 a4 a5 a6 a7 a8 a9 a10 a11 a12 a13) (ctxOf Try.prog (memoS 74 rdfP rdfF rdfW rdfH 3 memo0))) := by unfold AF.edgeOk; kernel_rfl
theorem rdmnode0 (a0 : Bool) (a1 a2 a3 a4 : Int) (a5 : Nat) (a6 a7 : Nat → Int) (a8 : Nat) (a9 a10 a11 a12 : Nat → Int) (a13 : Int) (p0 p1 : Nat) (p2 p3 : Int) (p4 : Nat) (p5 : Nat → Int) : AF.edgeOk (rdmA a0 a1 a2 a3 a4 a5 a6 a7 a8 a9 a10 a11 a12 a13) (ctxOf Try.prog memo0) (rdmD a0 a1 a2 a3 a4 a5 a6 a7 a8 a9 a10 a11 a12 a13 (.n0 p0 p1 p2 p3 p4 p5)) (AF.runN (rdmA a0 a1 a2 a3 a4 a5 a6 a7 a8 a9 a10 a11 a12 a13) (ctxOf Try.prog (memoS 74 rdfP rdfF rdfW rdfH 3 memo0)) (.n0 p0 p1 p2 p3 p4 p5)) := by unfold AF.edgeOk; kernel_rfl
theorem rdmok (a0 : Bool) (a1 a2 a3 a4 : Int) (a5 : Nat) (a6 a7 : Nat → Int) (a8 : Nat) (a9 a10 a11 a12 : Nat → Int) (a13 : Int) : (rdmA a0 a1 a2 a3 a4 a5 a6 a7 a8 a9 a10 a11 a12 a13).Ok Try.prog (ctxOf Try.prog (memoS 74 rdfP rdfF rdfW rdfH 3 memo0)) where
  regs := by kernel_rfl
  h0 := by kernel_rfl
  start := rdmstart a0 a1 a2 a3 a4 a5 a6 a7 a8 a9 a10 a11 a12 a13
  node := fun a _ => match a with
   | .n0 p0 p1 p2 p3 p4 p5 => rdmnode0 a0 a1 a2 a3 a4 a5 a6 a7 a8 a9 a10 a11 a12 a13 p0 p1 p2 p3 p4 p5
  pd := fun a => match a with
   | .n0 p0 p1 p2 p3 p4 p5 => ⟨(fa_cons rfl (fa_cons rfl (fa_cons rfl (fa_cons rfl fa_nil)))), (fa_cons ⟨.inl (Nat.le_of_ble_eq_true rfl), (fun _ => rfl), rfl⟩ fa_nil), fa_nil, rfl⟩
  le := fun a => match a with
   | .n0 p0 p1 p2 p3 p4 p5 => Nat.le_of_ble_eq_true rfl
  rd := fun v => ⟨⟨fa_nil, fa_nil, fa_nil, rfl⟩, rfl⟩
  wb := rfl
theorem rdmhR {ρ : Env} (a0 : Bool) (a1 a2 a3 a4 : Int) (a5 : Nat) (a6 a7 : Nat → Int) (a8 : Nat) (a9 a10 a11 a12 : Nat → Int) (a13 : Int) (hM : MemoOk Try.prog (ctxOf Try.prog (memoS 74 rdfP rdfF rdfW rdfH 3 memo0)) ρ) : ∀ X a q n D, FxOk ρ X → X.base = (rdmA a0 a1 a2 a3 a4 a5 a6 a7 a8 a9 a10 a11 a12 a13).base → X.nt = (rdmA a0 a1 a2 a3 a4 a5 a6 a7 a8 a9 a10 a11 a12 a13).nt → X.W = (rdmA a0 a1 a2 a3 a4 a5 a6 a7 a8 a9 a10 a11 a12 a13).W → (rdmA a0 a1 a2 a3 a4 a5 a6 a7 a8 a9 a10 a11 a12 a13).rgo a = some q → q n = some D → (rdmA a0 a1 a2 a3 a4 a5 a6 a7 a8 a9 a10 a11 a12 a13).RangeOk Try.prog ρ X a D := AF.noRange rfl
theorem rdmctr {ρ : Env} (a0 : Bool) (a1 a2 a3 a4 : Int) (a5 : Nat) (a6 a7 : Nat → Int) (a8 : Nat) (a9 a10 a11 a12 : Nat → Int) (a13 : Int) {n : Nat} {v : rdmR} (hM : MemoOk Try.prog (ctxOf Try.prog (memoS 74 rdfP rdfF rdfW rdfH 3 memo0)) ρ) (hv : (rdmA a0 a1 a2 a3 a4 a5 a6 a7 a8 a9 a10 a11 a12 a13).run n = some v) :
    Ctr Try.prog ρ 31 (rdmA a0 a1 a2 a3 a4 a5 a6 a7 a8 a9 a10 a11 a12 a13).args (rdmA a0 a1 a2 a3 a4 a5 a6 a7 a8 a9 a10 a11 a12 a13).H0 (rdmA a0 a1 a2 a3 a4 a5 a6 a7 a8 a9 a10 a11 a12 a13).base (rdmA a0 a1 a2 a3 a4 a5 a6 a7 a8 a9 a10 a11 a12 a13).W ((rdmA a0 a1 a2 a3 a4 a5 a6 a7 a8 a9 a10 a11 a12 a13).rc v) (putH (rdmA a0 a1 a2 a3 a4 a5 a6 a7 a8 a9 a10 a11 a12 a13).H0 ((rdmA a0 a1 a2 a3 a4 a5 a6 a7 a8 a9 a10 a11 a12 a13).rh v ++ (rdmA a0 a1 a2 a3 a4 a5 a6 a7 a8 a9 a10 a11 a12 a13).rx v)) ((rdmA a0 a1 a2 a3 a4 a5 a6 a7 a8 a9 a10 a11 a12 a13).rn v) :=
  AF.ctr try_ok hM (rdmok a0 a1 a2 a3 a4 a5 a6 a7 a8 a9 a10 a11 a12 a13) (fn := Try.f31) Try.func31 rfl rfl (Nat.le_of_ble_eq_true rfl) rfl (rdmhR a0 a1 a2 a3 a4 a5 a6 a7 a8 a9 a10 a11 a12 a13 hM) hv
theorem rdmmem {ρ : Env} : MemoOk Try.prog (ctxOf Try.prog (memoS 74 rdfP rdfF rdfW rdfH 3 memo0)) ρ := (memoS_ok (rdfknown rdfmem) memo0_ok)
abbrev rdmP : List AQ := [.agg [.bool, .int .i64, .int .i64, .int .i64, .int .i64, .rows [some .i64, some .i64]], .rows [some .i64, some .i64, some .i64, some .i64], .int .i64]
noncomputable def rdmF (v : AW) : AF rdmN rdmR := rdmA (v.b.getD 0 false) (v.i.getD 0 0) (v.i.getD 1 0) (v.i.getD 2 0) (v.i.getD 3 0) (v.t.getD 0 .none).n ((v.t.getD 0 .none).c 0) ((v.t.getD 0 .none).c 1) (v.t.getD 1 .none).n ((v.t.getD 1 .none).c 0) ((v.t.getD 1 .none).c 1) ((v.t.getD 1 .none).c 2) ((v.t.getD 1 .none).c 3) (v.i.getD 4 0)
noncomputable def rdmW : rdmR → CV := fun v => .int .i64 (.x v)
noncomputable def rdmH : rdmR → List (Nat × Blk) := fun v => []
instance : Inhabited rdmR := ⟨0⟩
theorem rdmknown {ρ : Env} (hM : MemoOk Try.prog (ctxOf Try.prog (memoS 74 rdfP rdfF rdfW rdfH 3 memo0)) ρ) : KnownS Try.prog ρ 31 rdmP rdmF rdmW rdmH 2 where
  fn := ⟨Try.f31, Try.func31, rfl⟩
  le := Nat.le_of_ble_eq_true rfl
  full := fun r => rfl
  rg := fun r => rfl
  hg := fun r => fa_nil
  ctr := fun v n r h => rdmctr (v.b.getD 0 false) (v.i.getD 0 0) (v.i.getD 1 0) (v.i.getD 2 0) (v.i.getD 3 0) (v.t.getD 0 .none).n ((v.t.getD 0 .none).c 0) ((v.t.getD 0 .none).c 1) (v.t.getD 1 .none).n ((v.t.getD 1 .none).c 0) ((v.t.getD 1 .none).c 1) ((v.t.getD 1 .none).c 2) ((v.t.getD 1 .none).c 3) (v.i.getD 4 0) hM h
end Go.Proofs.Ythagjhadjpangaa.Cx

/- A CALL THAT IS KNOWN BY A RUN OF ITS OWN: the evaluator runs it once, in a small memory that holds its arguments' blocks; wherever the same arguments come up, with blocks that hold the same, it yields the same. So a long run is many short ones, each a theorem of its own. -/
namespace Go.Proofs.Ythagjhadjpangaa.Cx
set_option linter.unusedSimpArgs false
set_option linter.unusedVariables false
open Go Go.RowKit
mutual
/-- The same value, where block b is called β b. -/
def CV.eqv (β : Nat → Nat) (N : Nat) : CV → CV → Bool
  | .bool (.c a), .bool (.c b) => (a && b) || (!a && !b)
  | .int k (.c n), .int k' (.c m) => decide (k = k') && decide (n = m)
  | .ptr none, .ptr none => true
  | .ptr (some (b, o)), .ptr (some (b', o')) => Nat.blt b N && (Nat.beq (β b) b' && Nat.beq o o')
  | .slc none n c, .slc none n' c' => Nat.beq n n' && Nat.beq c c'
  | .slc (some (b, o)) n c, .slc (some (b', o')) n' c' => Nat.blt b N && (Nat.beq (β b) b' && (Nat.beq o o' && (Nat.beq n n' && Nat.beq c c')))
  | .emp, .emp => true
  | .agg l, .agg m => CV.eqvl β N l m
  | .tup l, .tup m => CV.eqvl β N l m
  | _, _ => false
def CV.eqvl (β : Nat → Nat) (N : Nat) : List CV → List CV → Bool
  | [], [] => true
  | c :: l, d :: m => CV.eqv β N c d && CV.eqvl β N l m
  | _, _ => false
end
section
variable {P : Program} {ρ : Env}
mutual
theorem CV.eqv_ok {β : Nat → Nat} {N : Nat} {σ τ : Mp} (hβ : ∀ b, b < N → τ b = σ (β b)) : ∀ (c d : CV) {v : Value}, CV.eqv β N c d = true → VR ρ σ d v → VR ρ τ c v := by
  intro c d v h hv
  unfold CV.eqv at h
  split at h
  · rename_i a b
    obtain rfl := hv.bool_inv
    have e : a = b := by cases a <;> cases b <;> first | rfl | cases h
    subst e
    exact .bool (.c a)
  · simp only [Bool.and_eq_true, decide_eq_true_eq] at h
    obtain ⟨rfl, rfl⟩ := h
    obtain rfl := hv.int_inv
    exact .int _ (.c _)
  · cases hv; exact .ptr0
  · rename_i b o b' o'
    simp only [Bool.and_eq_true] at h
    obtain ⟨h1, h2, h3⟩ := h
    obtain rfl := Nat.eq_of_beq_eq_true h2
    obtain rfl := Nat.eq_of_beq_eq_true h3
    cases hv with
    | ptr hl => exact .ptr ((hβ b (blt_lt h1)).trans hl)
  · simp only [Bool.and_eq_true] at h
    obtain ⟨h1, h2⟩ := h
    obtain rfl := Nat.eq_of_beq_eq_true h1
    obtain rfl := Nat.eq_of_beq_eq_true h2
    cases hv; exact .slc0
  · rename_i b o n c b' o' n' c'
    simp only [Bool.and_eq_true] at h
    obtain ⟨h1, h2, h3, h4, h5⟩ := h
    obtain rfl := Nat.eq_of_beq_eq_true h2
    obtain rfl := Nat.eq_of_beq_eq_true h3
    obtain rfl := Nat.eq_of_beq_eq_true h4
    obtain rfl := Nat.eq_of_beq_eq_true h5
    cases hv with
    | slc hl hc hs => exact .slc ((hβ b (blt_lt h1)).trans hl) hc hs
  · cases hv; exact .emp _ _
  · rename_i l m
    obtain ⟨cs, rfl, h1⟩ := hv.agg_inv
    exact .agg (CV.eqvl_ok hβ l m h h1)
  · rename_i l m
    obtain ⟨cs, rfl, h1⟩ := hv.tup_inv
    exact .tup (CV.eqvl_ok hβ l m h h1)
  · cases h
theorem CV.eqvl_ok {β : Nat → Nat} {N : Nat} {σ τ : Mp} (hβ : ∀ b, b < N → τ b = σ (β b)) : ∀ (l m : List CV) {vs : List Value}, CV.eqvl β N l m = true → VRl ρ σ m vs → VRl ρ τ l vs
  | [], [], _, _, hv => by cases hv; exact .nil
  | [], d :: m, _, h, _ => by unfold CV.eqvl at h; cases h
  | c :: l, [], _, h, _ => by unfold CV.eqvl at h; cases h
  | c :: l, d :: m, _, h, hv => by
    unfold CV.eqvl at h
    simp only [Bool.and_eq_true] at h
    cases hv with
    | cons h1 t1 => exact .cons (CV.eqv_ok hβ c d h.1 h1) (CV.eqvl_ok hβ l m h.2 t1)
end
abbrev KBlk := List CV × Nat
def KBlk.blk (x : KBlk) : Blk := ⟨.lit x.1, x.2, true, none⟩
noncomputable def hB : List KBlk → Nat → Tr Blk
  | [], _ => .nil
  | x :: l, q => (hB l (q + 1)).set q (KBlk.blk x)
theorem hB_get (i : Nat) : ∀ (l : List KBlk) (q : Nat) (k : Blk), (hB l q).get i = some k → ∃ j x, i = q + j ∧ l[j]? = some x ∧ k = KBlk.blk x
  | [], q, k, h => by simp [hB, Tr.get_nil] at h
  | x :: l, q, k, h => by
    simp only [hB, Tr.get_set] at h
    by_cases hi : i = q
    · rw [if_pos hi] at h
      cases h
      exact ⟨0, x, by omega, rfl, rfl⟩
    · rw [if_neg hi] at h
      obtain ⟨j, x', h1, h2, h3⟩ := hB_get i l (q + 1) k h
      exact ⟨j + 1, x', by omega, by simpa using h2, h3⟩
def nodB : List Nat → Bool
  | [] => true
  | b :: l => !(l.any (Nat.beq b)) && nodB l
theorem nodB_ok : ∀ {l : List Nat}, nodB l = true → ∀ (i j b : Nat), l[i]? = some b → l[j]? = some b → i = j
  | [], _, i, j, b, h, _ => by simp at h
  | c :: l, h, i, j, b, hi, hj => by
    unfold nodB at h
    simp only [Bool.and_eq_true, Bool.not_eq_true'] at h
    have no : ∀ j : Nat, l[j]? = some c → False := fun j hj => by
      have := List.any_eq_false.1 h.1 c (List.mem_of_getElem? hj)
      exact this (Nat.beq_refl c)
    cases i with
    | zero =>
      cases j with
      | zero => rfl
      | succ j =>
        have e0 : c = b := by simpa using hi
        subst e0
        exact (no j (by simpa using hj)).elim
    | succ i =>
      cases j with
      | zero =>
        have e0 : c = b := by simpa using hj
        subst e0
        exact (no i (by simpa using hi)).elim
      | succ j => exact congrArg Nat.succ (nodB_ok h.2 i j b (by simpa using hi) (by simpa using hj))
/-- A call: its arguments, their blocks, what it yields, the blocks that it makes and that matter (how the run calls them): they are numbered behind the arguments' blocks. -/
structure KCall where
  g : Nat
  args : List CV
  blks : List KBlk
  c : CV
  new : List (Nat × KBlk)
def KCall.n1 (K : KCall) : Nat := K.blks.length + K.new.length
/-- What the run calls a block. -/
def KCall.old (K : KCall) (b : Nat) : Nat := bif Nat.blt b K.blks.length then b else match K.new[b - K.blks.length]? with | some x => x.1 | none => 0
noncomputable def KCall.h1 (K : KCall) : Tr Blk := hB (K.new.map (·.2)) K.blks.length
/-- The run says so. -/
noncomputable def KCall.says (K : KCall) : Option Out → Bool
  | some ⟨.val c', s1, _, []⟩ => (match s1.pc with | [] => true | _ => false) && (CV.eqv K.old K.n1 K.c c' && ((K.new.all fun x => (Nat.ble K.blks.length x.1 && Nat.blt x.1 s1.next) && match s1.heap.get x.1 with | some ⟨.lit l, e, true, none⟩ => CV.eqvl K.old K.n1 x.2.1 l && Nat.beq e x.2.2 | _ => false) && (nodB (K.new.map (·.1)) && K.blks.all fun x => CV.eqvl id K.blks.length x.1 x.1)))
  | _ => false
structure KCall.Ok (K : KCall) (P : Program) (ρ : Env) : Prop where
  fn : ∃ fn, P.funcs[K.g]? = some fn ∧ fn.body.isSome = true
  rg : K.c.rng K.blks.length K.n1 = true
  hg : ∀ x ∈ K.new, CV.rngl K.blks.length K.n1 x.2.1 = true
  ctr : Ctr P ρ K.g K.args (hB K.blks 0) K.blks.length [] K.c K.h1 K.n1
theorem KCall.of_run {K : KCall} (hP : progOk P = true) {memo : Memo} (hM : MemoOk P (ctxOf P memo) ρ) {m : Nat} (hf : (match P.funcs[K.g]? with | some fn => fn.body.isSome | none => false) = true)
    (h2 : K.c.rng K.blks.length K.n1 = true) (h3 : (K.new.all fun x => CV.rngl K.blks.length K.n1 x.2.1) = true)
    (h : K.says (eval (ctxOf P memo) m K.blks.length (.call K.g K.args) ⟨hB K.blks 0, K.blks.length, [], []⟩) = true) : K.Ok P ρ := by
  refine ⟨?_, h2, fun x hx => List.all_eq_true.1 h3 x hx, ?_, ?_⟩
  · split at hf
    · rename_i fn hfn; exact ⟨fn, hfn, hf⟩
    · cases hf
  · split at hf
    · rename_i fn hfn; exact ⟨fn, hfn, hf⟩
    · cases hf
  · intro n σ w args' ha hH hN
    generalize he : eval (ctxOf P memo) m K.blks.length (.call K.g K.args) ⟨hB K.blks 0, K.blks.length, [], []⟩ = r at h
    unfold KCall.says at h
    split at h
    · rename_i c' s1 R
      simp only [Bool.and_eq_true] at h
      obtain ⟨q1, q3, q4, q5, q6⟩ := h
      have hpc : s1.pc = [] := by
        split at q1
        · assumption
        · cases q1
      have k := (eval_ok (ρ := ρ) (ctxOf_ok hP memo) hM m).call _ _ _ _ _ _ _ _ he
      have := k.run n σ (curOf (hB K.blks 0) K.blks.length) w args' (by rw [hpc]; intro p hp; cases hp) ha hH (fun b hb => by
        rcases hb with hb | hb
        · have : b < K.blks.length := k.lt.1 b hb
          exact if_pos this
        · cases hb) (fun b hb _ => hN b hb)
      refine this.mono ?_
      rintro e' w' ⟨v, rfl, σ1, x1, x2, x3, x4, x5⟩
      have x1 : Ext σ σ1 K.blks.length s1.next := x1
      have x3 : HR ρ σ1 (upd (curOf (hB K.blks 0) K.blks.length) K.blks.length s1.next s1.heap []) w' := x3
      have x5 : Fresh σ σ1 K.blks.length s1.next K.blks.length [] w := x5
      have old0 : ∀ b, b < K.blks.length → K.old b = b := fun b hb => by
        unfold KCall.old
        rw [show Nat.blt b K.blks.length = true from Nat.ble_eq_true_of_le hb, cond_true]
      have old1 : ∀ b, ¬ b < K.blks.length → b < K.n1 → ∃ x, K.new[b - K.blks.length]? = some x ∧ K.old b = x.1 := fun b hb hb2 => by
        have hl : b - K.blks.length < K.new.length := by unfold KCall.n1 at hb2; omega
        refine ⟨_, List.getElem?_eq_getElem hl, ?_⟩
        unfold KCall.old
        have hbf : Nat.blt b K.blks.length = false := by
          cases hbb : Nat.blt b K.blks.length with
          | false => rfl
          | true => exact absurd (blt_lt hbb) hb
        rw [hbf, cond_false, List.getElem?_eq_getElem hl]
      have newOk : ∀ x ∈ K.new, (K.blks.length ≤ x.1 ∧ x.1 < s1.next) ∧ ∃ l, s1.heap.get x.1 = some ⟨.lit l, x.2.2, true, none⟩ ∧ CV.eqvl K.old K.n1 x.2.1 l = true := fun x hx => by
        have := List.all_eq_true.1 q4 x hx
        simp only [Bool.and_eq_true] at this
        obtain ⟨⟨g1, g2⟩, g3⟩ := this
        refine ⟨⟨Nat.le_of_ble_eq_true g1, blt_lt g2⟩, ?_⟩
        split at g3
        · rename_i l e hl
          simp only [Bool.and_eq_true] at g3
          obtain rfl := Nat.eq_of_beq_eq_true g3.2
          exact ⟨l, hl, g3.1⟩
        · cases g3
      obtain ⟨σ2, hσ2⟩ : ∃ σ2 : Mp, σ2 = fun b => if b < K.n1 then σ1 (K.old b) else none := ⟨_, rfl⟩
      have hβ : ∀ b, b < K.n1 → σ2 b = σ1 (K.old b) := fun b hb => by rw [hσ2]; exact if_pos hb
      have hle : K.blks.length ≤ K.n1 := by unfold KCall.n1; omega
      have hlow : ∀ b, b < K.blks.length → σ2 b = σ1 b := fun b hb => by rw [hβ b (by omega), old0 b hb]
      have get : ∀ b k, upd (curOf (hB K.blks 0) K.blks.length) K.blks.length K.n1 K.h1 [] b = some k → b < K.n1 ∧ (∃ k1, upd (curOf (hB K.blks 0) K.blks.length) K.blks.length s1.next s1.heap [] (K.old b) = some k1 ∧ k.live = k1.live ∧ k.esz = k1.esz ∧ k.ext = none ∧ k1.ro = false ∧ ∀ us, VRl ρ σ1 k1.cells us → VRl ρ σ2 k.cells us) := by
        intro b k hk
        by_cases hb : b < K.blks.length
        · refine ⟨by omega, ?_⟩
          unfold upd at hk ⊢
          rw [old0 b hb]
          rw [if_neg (by simp; omega)] at hk ⊢
          have hk2 : curOf (hB K.blks 0) K.blks.length b = some k := hk
          unfold curOf at hk2
          rw [if_pos hb] at hk2
          obtain ⟨j, x, rfl, g1, rfl⟩ := hB_get b K.blks 0 k hk2
          exact ⟨_, hk, rfl, rfl, rfl, rfl, fun us hus => CV.eqvl_ok (fun b hb => hlow b hb) _ _ (List.all_eq_true.1 q6 x (List.mem_of_getElem? g1)) hus⟩
        · by_cases hb2 : b < K.n1
          · refine ⟨hb2, ?_⟩
            unfold upd at hk
            rw [if_pos (.inr ⟨by omega, hb2⟩)] at hk
            have hk : (hB (K.new.map (·.2)) K.blks.length).get b = some k := hk
            obtain ⟨j, x, rfl, g1, rfl⟩ := hB_get b _ _ k hk
            rw [List.getElem?_map] at g1
            obtain ⟨y, hy, hyo⟩ := old1 (K.blks.length + j) hb hb2
            rw [Nat.add_sub_cancel_left] at hy
            rw [hy] at g1
            obtain rfl : y.2 = x := Option.some.inj g1
            obtain ⟨⟨r1, r2⟩, l, r3, r4⟩ := newOk y (List.mem_of_getElem? hy)
            refine ⟨⟨.lit l, y.2.2, true, none⟩, ?_, rfl, rfl, rfl, rfl, fun us hus => CV.eqvl_ok hβ _ _ r4 hus⟩
            unfold upd
            rw [hyo, if_pos (.inr ⟨r1, r2⟩)]
            exact r3
          · unfold upd at hk
            rw [if_neg (by simp; omega)] at hk
            unfold curOf at hk
            rw [if_neg hb] at hk
            cases hk
      have inj : ∀ b b', b < K.n1 → b' < K.n1 → K.old b = K.old b' → b = b' := by
        intro b b' hb hb' he
        by_cases h1 : b < K.blks.length
        · rw [old0 b h1] at he
          by_cases h2 : b' < K.blks.length
          · rw [old0 b' h2] at he; exact he
          · obtain ⟨y, hy, hyo⟩ := old1 b' h2 hb'
            have := (newOk y (List.mem_of_getElem? hy)).1.1
            omega
        · obtain ⟨x, hx, hxo⟩ := old1 b h1 hb
          by_cases h2 : b' < K.blks.length
          · rw [old0 b' h2] at he
            have := (newOk x (List.mem_of_getElem? hx)).1.1
            omega
          · obtain ⟨y, hy, hyo⟩ := old1 b' h2 hb'
            have := nodB_ok q5 (b - K.blks.length) (b' - K.blks.length) x.1 (by rw [List.getElem?_map, hx]; rfl) (by rw [List.getElem?_map, hy]; show some y.1 = some x.1; rw [← hyo, ← he, hxo])
            omega
      refine ⟨v, rfl, σ2, fun b hb => ?_, CV.eqv_ok hβ _ _ q3 x2, ?_, x4, fun b l b1 b2 b3 => ?_⟩
      · have hb : b < K.blks.length ∨ K.n1 ≤ b := hb
        rcases hb with hb | hb
        · rw [hlow b hb]; exact x1 b (.inl hb)
        · rw [hσ2, hN b (by omega)]; exact if_neg (by omega)
      · refine ⟨fun b k l a1 a2 a3 => ?_, fun b b' k k' l l' a1 a2 a3 a4 a5 a6 a7 a8 => ?_, fun b k x l a1 a2 a3 => ?_, fun b b' k k' x x' l l' a1 a2 a3 a4 a5 a6 a7 => ?_, fun y hy => ⟨(x3.glob y hy).1, fun b k l a1 a2 ar a3 => ?_⟩⟩
        · obtain ⟨hb, k1, g1, g2, g3, _, _, g5⟩ := get b k a1
          rw [hβ b hb] at a3
          obtain ⟨cs, t, p, r1, r2, r3, r4, r5, r6⟩ := x3.cell _ k1 l g1 (g2 ▸ a2) a3
          have r7 := g5 _ r6
          have hln : k.cells.length = k1.cells.length := r7.length.symm.trans r6.length
          exact ⟨cs, t, p, r1, fun _ => r2 (by assumption), r3, g3.trans r4, by rw [hln]; exact r5, by rw [hln]; exact r7⟩
        · obtain ⟨hb, k1, g1, g2, _, _, g4, _⟩ := get b k a1
          obtain ⟨hb', k1', g1', g2', _, _, g4', _⟩ := get b' k' a4
          rw [hβ b hb] at a3
          rw [hβ b' hb'] at a6
          exact inj b b' hb hb' (x3.inj _ _ k1 k1' l l' g1 (g2 ▸ a2) a3 g1' (g2' ▸ a5) a6 a7 (.inl g4))
        · obtain ⟨_, _, _, _, _, g, _⟩ := get b k a1
          rw [g] at a2; cases a2
        · obtain ⟨_, _, _, _, _, g, _⟩ := get b k a1
          rw [g] at a2; cases a2
        · obtain ⟨hb, k1, g1, g2, _, _, g4, _⟩ := get b k a1
          rw [hβ b hb] at a3
          exact (x3.glob y hy).2 _ k1 l g1 (g2 ▸ a2) g4 a3
      · have b2 : b < K.n1 := b2
        have hnb : ¬ b < K.blks.length := by have b1 : K.blks.length ≤ b := b1; omega
        rw [hβ b b2] at b3
        obtain ⟨y, hy, hyo⟩ := old1 b hnb b2
        obtain ⟨⟨r1, r2⟩, _⟩ := newOk y (List.mem_of_getElem? hy)
        rw [hyo] at b3
        exact x5 y.1 l r1 r2 b3
    · cases h
/-- The new blocks, by the numbers that they get. -/
def newL (q : Nat) : List (Nat × KBlk) → List (Nat × Blk)
  | [] => []
  | x :: l => (q, KBlk.blk x.2) :: newL (q + 1) l
def KCall.newB (K : KCall) : List (Nat × Blk) := newL K.blks.length K.new
theorem newL_mem : ∀ {l : List (Nat × KBlk)} {q : Nat} {y : Nat × Blk}, y ∈ newL q l → (q ≤ y.1 ∧ y.1 < q + l.length) ∧ ∃ x ∈ l, y.2 = KBlk.blk x.2
  | [], q, y, h => by cases h
  | x :: l, q, y, h => by
    rcases List.mem_cons.1 h with rfl | h
    · exact ⟨⟨Nat.le_refl _, by simp⟩, x, List.mem_cons_self .., rfl⟩
    · obtain ⟨⟨h1, h2⟩, z, hz, e⟩ := newL_mem h
      exact ⟨⟨by omega, by simp only [List.length_cons]; omega⟩, z, List.mem_cons_of_mem _ hz, e⟩
theorem newL_find : ∀ (l : List (Nat × KBlk)) (q b : Nat), (newL q l).find? (fun x => x.1 == b) = if q ≤ b then (l[b - q]?).map (fun x => (b, KBlk.blk x.2)) else none
  | [], q, b => by simp [newL]
  | x :: l, q, b => by
    rw [newL, List.find?_cons]
    by_cases h : q = b
    · subst h; simp
    · have hf : (q == b) = false := by simpa using h
      rw [hf, newL_find l (q + 1) b]
      by_cases h2 : q + 1 ≤ b
      · rw [if_pos h2, if_pos (by omega), show b - q = (b - (q + 1)) + 1 by omega, List.getElem?_cons_succ]
      · rw [if_neg h2, if_neg (by omega)]
theorem hB_at : ∀ (l : List KBlk) (q b : Nat), (hB l q).get b = if q ≤ b then (l[b - q]?).map KBlk.blk else none
  | [], q, b => by simp [hB, Tr.get_nil]
  | x :: l, q, b => by
    rw [hB, Tr.get_set]
    by_cases h : b = q
    · subst h; simp
    · rw [if_neg h, hB_at l (q + 1) b]
      by_cases h2 : q + 1 ≤ b
      · rw [if_pos h2, if_pos (by omega), show b - q = (b - (q + 1)) + 1 by omega, List.getElem?_cons_succ]
      · rw [if_neg h2, if_neg (by omega)]
/-! ## The memo -/
def insM (b b' : Nat) (m : List (Nat × Nat)) : List (Nat × Nat) := bif m.any (fun x => Nat.beq x.1 b) then m else (b, b') :: m
mutual
def CV.uni : CV → CV → List (Nat × Nat) → List (Nat × Nat)
  | .ptr (some (b, _)), .ptr (some (b', _)), m => insM b b' m
  | .slc (some (b, _)) _ _, .slc (some (b', _)) _ _, m => insM b b' m
  | .agg l, .agg l', m => CV.unil l l' m
  | .tup l, .tup l', m => CV.unil l l' m
  | _, _, m => m
def CV.unil : List CV → List CV → List (Nat × Nat) → List (Nat × Nat)
  | c :: l, d :: l', m => CV.unil l l' (CV.uni c d m)
  | _, _, m => m
end
def lookM (m : List (Nat × Nat)) (b : Nat) : Nat := match m.find? (fun x => Nat.beq x.1 b) with | some x => x.2 | none => 0
noncomputable def uniB (s : St) : List KBlk → Nat → List (Nat × Nat) → List (Nat × Nat)
  | [], _, m => m
  | x :: l, i, m => uniB s l (i + 1) (match s.heap.get (lookM m i) with | some ⟨.lit k, _, _, _⟩ => CV.unil x.1 k m | _ => m)
noncomputable def chkB (s : St) (β : Nat → Nat) (N : Nat) : List KBlk → Nat → Bool
  | [], _ => true
  | x :: l, i => (match s.heap.get (β i) with | some ⟨.lit k, e, true, none⟩ => CV.eqvl β N x.1 k && (Nat.beq e x.2 && Nat.blt (β i) s.next) | _ => false) && chkB s β N l (i + 1)
theorem chkB_ok {s : St} {β : Nat → Nat} {N : Nat} : ∀ {l : List KBlk} {q : Nat}, chkB s β N l q = true → ∀ j x, l[j]? = some x → ∃ k e, s.heap.get (β (q + j)) = some ⟨.lit k, e, true, none⟩ ∧ CV.eqvl β N x.1 k = true ∧ e = x.2 ∧ β (q + j) < s.next
  | [], q, _, j, x, h => by simp at h
  | y :: l, q, h, j, x, hx => by
    unfold chkB at h
    simp only [Bool.and_eq_true] at h
    obtain ⟨h1, h2⟩ := h
    cases j with
    | zero =>
      have e0 : y = x := by simpa using hx
      subst e0
      split at h1
      · rename_i k e hk
        simp only [Bool.and_eq_true] at h1
        exact ⟨k, e, hk, h1.1, Nat.eq_of_beq_eq_true h1.2.1, blt_lt h1.2.2⟩
      · cases h1
    | succ j =>
      have := chkB_ok h2 j x (by simpa using hx)
      rw [show q + 1 + j = q + (j + 1) by omega] at this
      exact this
/-- The names that the blocks have. -/
noncomputable def KCall.bs (K : KCall) (s : St) (args : List CV) : List Nat := (List.range K.blks.length).map (lookM (uniB s K.blks 0 (CV.unil K.args args [])))
def bOf (bs : List Nat) (i : Nat) : Nat := (bs[i]?).getD 0
noncomputable def KCall.fits (K : KCall) (s : St) (args : List CV) (bs : List Nat) : Bool :=
  CV.eqvl (bOf bs) K.blks.length K.args args && (chkB s (bOf bs) K.blks.length K.blks 0 && (nodB bs && Nat.beq bs.length K.blks.length))
noncomputable def memoK (K : KCall) (inner : Memo) : Memo := fun f args s =>
  bif Nat.beq f K.g && K.fits s args (K.bs s args) then
    some (K.c.ren (liftName K.blks.length s.next), { s with heap := putNew K.blks.length s.next s.heap K.newB, next := s.next + (K.n1 - K.blks.length) }, K.bs s args, [])
  else inner f args s
theorem memoK_ok {K : KCall} {inner : Memo} (hK : K.Ok P ρ) (hi : MemoOk P (ctxOf P inner) ρ) : MemoOk P (ctxOf P (memoK K inner)) ρ := by
  have lift : ∀ {f args s c s' R' W}, CallOk P (ctxOf P inner) ρ f args s c s' R' W → CallOk P (ctxOf P (memoK K inner)) ρ f args s c s' R' W := fun h => ⟨h.fn, h.frm, h.lt, h.run⟩
  intro f args s c s' R' W h0
  have h : memoK K inner f args s = some (c, s', R', W) := h0
  clear h0
  unfold memoK at h
  generalize hbs : K.bs s args = bs at h
  cases hf : (Nat.beq f K.g && K.fits s args bs) with
  | false => rw [hf, cond_false] at h; exact lift (hi _ _ _ _ _ _ _ h)
  | true =>
    rw [hf, cond_true] at h
    cases h
    simp only [Bool.and_eq_true, KCall.fits] at hf
    obtain ⟨f1, f2, f3, f4, f5⟩ := hf
    obtain rfl := Nat.eq_of_beq_eq_true f1
    have hlen := Nat.eq_of_beq_eq_true f5
    have hblk := chkB_ok f3
    have at' : ∀ i, i < K.blks.length → R'[i]? = some (bOf R' i) := fun i hi => by
      unfold bOf
      rw [List.getElem?_eq_getElem (by omega)]
      rfl
    have rngw : ∀ x ∈ K.newB, K.blks.length ≤ x.1 ∧ x.1 < K.n1 := fun x hx => (newL_mem hx).1
    refine Ctr.callS (base := K.blks.length) (n1 := K.n1) (args := K.args) (h0 := hB K.blks 0) (h1 := K.h1) (K := fun _ => hK.ctr) hK.fn (by unfold KCall.n1; omega) rfl ⟨[], rfl⟩ (fun b hb => ?_) (fun j hj kb hk => ?_) (fun b hb => ?_) (fun σ cur w l hp hl hH hcur => ?_) (fun σ σ2 v hl h => VR.lift hl h hK.rg)
    · show (putNew _ _ _ _).get b = _
      rw [get_putNew]
      split
      · rename_i x hx
        have h1 := List.find?_some hx
        have h2 := List.mem_of_find?_eq_some hx
        simp only [beq_iff_eq] at h1
        obtain ⟨q1, q2⟩ := rngw _ h2
        refine absurd ?_ hb
        show s.next ≤ b ∧ b < s.next + (K.n1 - K.blks.length)
        unfold liftName at h1
        omega
      · rfl
    · have hk : (putNew K.blks.length s.next s.heap K.newB).get (s.next + j) = some kb := hk
      rw [get_putNew] at hk
      have e : ∀ x ∈ K.newB, (liftName K.blks.length s.next x.1 == s.next + j) = (x.1 == K.blks.length + j) := fun x hx => by
        obtain ⟨q1, q2⟩ := rngw x hx
        unfold liftName
        rw [Bool.eq_iff_iff]
        simp only [beq_iff_eq]
        omega
      have hcg := find_congr e
      rw [hcg] at hk
      have hjl : j < K.new.length := by unfold KCall.n1 at hj; omega
      have hfd : K.newB.find? (fun x => x.1 == K.blks.length + j) = some (K.blks.length + j, KBlk.blk K.new[j].2) := by
        unfold KCall.newB
        rw [newL_find, if_pos (by omega), Nat.add_sub_cancel_left, List.getElem?_eq_getElem hjl]
        rfl
      rw [hfd] at hk
      cases hk
      have hmem : K.new[j] ∈ K.new := List.getElem_mem hjl
      have g1 := hK.hg _ hmem
      refine ⟨KBlk.blk K.new[j].2, ?_, rfl, rfl, rfl, fun h => rfl, fun σ σ2 us hl h => Blk.lift (k := KBlk.blk K.new[j].2) hl g1 h⟩
      unfold KCall.h1
      rw [hB_at, if_pos (by omega), Nat.add_sub_cancel_left, List.getElem?_map, List.getElem?_eq_getElem hjl]
      rfl
    · obtain ⟨i, hi'⟩ := List.getElem?_of_mem hb
      have hil : i < K.blks.length := by
        have := (List.getElem?_eq_some_iff.1 hi').1
        omega
      obtain ⟨k, e, _, _, _, q⟩ := hblk i _ (List.getElem?_eq_getElem hil)
      rw [Nat.zero_add] at q
      have := at' i hil
      rw [hi'] at this
      rw [Option.some.inj this]; exact q
    · have hτ : ∀ b, b < K.blks.length → (fun i => if i < K.blks.length then σ (bOf R' i) else none) b = σ (bOf R' b) := fun b hb => if_pos hb
      refine ⟨fun i => if i < K.blks.length then σ (bOf R' i) else none, CV.eqvl_ok hτ _ _ f2 hl, ?_, fun b hb => if_neg (by omega)⟩
      have get : ∀ b k, curOf (hB K.blks 0) K.blks.length b = some k → ∃ x k1, b < K.blks.length ∧ k = KBlk.blk x ∧ cur (bOf R' b) = some ⟨.lit k1, x.2, true, none⟩ ∧ ∀ us, VRl ρ σ k1 us → VRl ρ (fun i => if i < K.blks.length then σ (bOf R' i) else none) x.1 us := by
        intro b k hk
        unfold curOf at hk
        split at hk
        · rename_i hb
          obtain ⟨j, x, rfl, g1, rfl⟩ := hB_get b K.blks 0 k hk
          obtain ⟨k1, e, c1, c2, rfl, c4⟩ := hblk j x g1
          have hm : bOf R' (0 + j) ∈ R' := List.mem_of_getElem? (at' _ hb)
          exact ⟨x, k1, hb, rfl, (hcur _ hm).trans c1, fun us hus => CV.eqvl_ok hτ _ _ c2 hus⟩
        · cases hk
      refine ⟨fun b k l a1 a2 a3 => ?_, fun b b' k k' l l' a1 a2 a3 a4 a5 a6 a7 a8 => ?_, fun b k x l a1 a2 a3 => ?_, fun b b' k k' x x' l l' a1 a2 a3 a4 a5 a6 a7 => ?_, fun y hy => ⟨(hH.glob y hy).1, fun b k l a1 a2 ar a3 => ?_⟩⟩
      · obtain ⟨x, k1, hb, rfl, q1, q2⟩ := get b k a1
        have a3 : (if b < K.blks.length then σ (bOf R' b) else none) = some l := a3
        rw [if_pos hb] at a3
        obtain ⟨cs, t, p, r1, r2, r3, r4, r5, r6⟩ := hH.cell _ _ l q1 rfl a3
        have r7 := q2 _ r6
        have r6l := r6.length
        have r7l := r7.length
        have e1 : Blk.cells ⟨.lit k1, x.2, true, none⟩ = k1 := rfl
        have e2 : Blk.cells (KBlk.blk x) = x.1 := rfl
        rw [e1] at r5 r6 r7 r7l r6l
        have hln : x.1.length = k1.length := r7l.symm.trans r6l
        exact ⟨cs, t, p, r1, fun _ => r2 rfl, r3, r4, by rw [e2, hln]; exact r5, by rw [e2, hln]; exact r7⟩
      · obtain ⟨x, k1, hb, rfl, q1, _⟩ := get b k a1
        obtain ⟨x', k1', hb', rfl, q1', _⟩ := get b' k' a4
        have a3 : (if b < K.blks.length then σ (bOf R' b) else none) = some l := a3
        have a6 : (if b' < K.blks.length then σ (bOf R' b') else none) = some l' := a6
        rw [if_pos hb] at a3
        rw [if_pos hb'] at a6
        have := hH.inj _ _ _ _ l l' q1 rfl a3 q1' rfl a6 a7 (.inl rfl)
        exact nodB_ok f4 b b' _ (at' b hb) (by rw [this]; exact at' b' hb')
      · obtain ⟨x', k1, hb, rfl, _⟩ := get b k a1
        cases a2
      · obtain ⟨x', k1, hb, rfl, _⟩ := get b k a1
        cases a2
      · obtain ⟨x', k1, hb, rfl, q1, _⟩ := get b k a1
        have a3 : (if b < K.blks.length then σ (bOf R' b) else none) = some l := a3
        rw [if_pos hb] at a3
        exact (hH.glob y hy).2 _ _ l q1 rfl rfl a3
end
end Go.Proofs.Ythagjhadjpangaa.Cx

/- Calls that acme/acmelaw07.known makes, each known by a run of its own. Made by tools/cxkcalls.py. -/
namespace Go.Proofs.Ythagjhadjpangaa.Cx
set_option maxRecDepth 100000
set_option linter.unusedVariables false
open Go Go.Proofs Go.RowKit
def CxKn07K0 : KCall := ⟨18, [.agg [.bool (.c false), .int .i64 (.c (-1000)), .int .i64 (.c 1000), .int .i64 (.c (-500)), .int .i64 (.c 500), .slc (some (0, 0)) 2 2], .slc (some (1, 0)) 2 2, .int .i64 (.c 0), .int .i64 (.c 200)], [([.int .i64 (.c 10), .int .i64 (.c 20), .int .i64 (.c 50), .int .i64 (.c 100)], 2), ([.int .i64 (.c 200), .int .i64 (.c 0), .int .i64 (.c 100000), .int .i64 (.c 110000), .int .i64 (.c 100), .int .i64 (.c 1), .int .i64 (.c 100000), .int .i64 (.c 110000)], 4)], .tup [.agg [.int .i64 (.c 2000), .int .i64 (.c 4000)], .int .i64 (.c 0)], []⟩
theorem CxKn07K0_run : CxKn07K0.says (eval (ctxOf Try.prog memo0) 1000 CxKn07K0.blks.length (.call CxKn07K0.g CxKn07K0.args) ⟨hB CxKn07K0.blks 0, CxKn07K0.blks.length, [], []⟩) = true := by kernel_rfl
theorem CxKn07K0_ok {ρ : Env} : CxKn07K0.Ok Try.prog ρ := KCall.of_run try_ok memo0_ok (by kernel_rfl) (by kernel_rfl) (by kernel_rfl) CxKn07K0_run
def CxKn07K1 : KCall := ⟨19, [.agg [.bool (.c false), .int .i64 (.c (-1000)), .int .i64 (.c 1000), .int .i64 (.c (-500)), .int .i64 (.c 500), .slc (some (0, 0)) 2 2], .slc (some (1, 0)) 2 2, .int .i64 (.c 0), .int .i64 (.c 200)], [([.int .i64 (.c 10), .int .i64 (.c 20), .int .i64 (.c 50), .int .i64 (.c 100)], 2), ([.int .i64 (.c 200), .int .i64 (.c 0), .int .i64 (.c 100000), .int .i64 (.c 110000), .int .i64 (.c 100), .int .i64 (.c 1), .int .i64 (.c 100000), .int .i64 (.c 110000)], 4)], .tup [.agg [.int .i64 (.c 101500), .int .i64 (.c 104520)], .int .i64 (.c 0)], []⟩
theorem CxKn07K1_run : CxKn07K1.says (eval (ctxOf Try.prog memo0) 1000 CxKn07K1.blks.length (.call CxKn07K1.g CxKn07K1.args) ⟨hB CxKn07K1.blks 0, CxKn07K1.blks.length, [], []⟩) = true := by kernel_rfl
theorem CxKn07K1_ok {ρ : Env} : CxKn07K1.Ok Try.prog ρ := KCall.of_run try_ok memo0_ok (by kernel_rfl) (by kernel_rfl) (by kernel_rfl) CxKn07K1_run
end Go.Proofs.Ythagjhadjpangaa.Cx

/- Calls that acme/acmelaw07.known makes, each known by a run of its own. Made by tools/cxkcalls.py. -/
namespace Go.Proofs.Ythagjhadjpangaa.Cx
set_option maxRecDepth 100000
set_option linter.unusedVariables false
open Go Go.Proofs Go.RowKit
def CxKn07K2 : KCall := ⟨25, [.agg [.bool (.c false), .int .i64 (.c (-1000)), .int .i64 (.c 1000), .int .i64 (.c (-500)), .int .i64 (.c 500), .slc (some (0, 0)) 2 2], .slc (some (1, 0)) 2 2, .int .i64 (.c 0)], [([.int .i64 (.c 10), .int .i64 (.c 20), .int .i64 (.c 50), .int .i64 (.c 100)], 2), ([.int .i64 (.c 200), .int .i64 (.c 0), .int .i64 (.c 100000), .int .i64 (.c 110000), .int .i64 (.c 100), .int .i64 (.c 1), .int .i64 (.c 100000), .int .i64 (.c 110000)], 4)], .tup [.int .i64 (.c 231), .int .i64 (.c 0)], []⟩
theorem CxKn07K2_run : CxKn07K2.says (eval (ctxOf Try.prog memo0) 1000 CxKn07K2.blks.length (.call CxKn07K2.g CxKn07K2.args) ⟨hB CxKn07K2.blks 0, CxKn07K2.blks.length, [], []⟩) = true := by kernel_rfl
theorem CxKn07K2_ok {ρ : Env} : CxKn07K2.Ok Try.prog ρ := KCall.of_run try_ok memo0_ok (by kernel_rfl) (by kernel_rfl) (by kernel_rfl) CxKn07K2_run
def CxKn07K3 : KCall := ⟨26, [.agg [.bool (.c false), .int .i64 (.c (-1000)), .int .i64 (.c 1000), .int .i64 (.c (-500)), .int .i64 (.c 500), .slc (some (0, 0)) 2 2], .slc (some (1, 0)) 2 2], [([.int .i64 (.c 10), .int .i64 (.c 20), .int .i64 (.c 50), .int .i64 (.c 100)], 2), ([.int .i64 (.c 200), .int .i64 (.c 0), .int .i64 (.c 100000), .int .i64 (.c 110000), .int .i64 (.c 100), .int .i64 (.c 1), .int .i64 (.c 100000), .int .i64 (.c 110000)], 4)], .tup [.slc (some (2, 0)) 2 2, .int .i64 (.c 0)], [(725, ([.int .i64 (.c 0), .int .i64 (.c 101500), .int .i64 (.c 231), .int .i64 (.c 101500)], 2))]⟩
theorem CxKn07K3_run : CxKn07K3.says (eval (ctxOf Try.prog memo0) 1000 CxKn07K3.blks.length (.call CxKn07K3.g CxKn07K3.args) ⟨hB CxKn07K3.blks 0, CxKn07K3.blks.length, [], []⟩) = true := by kernel_rfl
theorem CxKn07K3_ok {ρ : Env} : CxKn07K3.Ok Try.prog ρ := KCall.of_run try_ok memo0_ok (by kernel_rfl) (by kernel_rfl) (by kernel_rfl) CxKn07K3_run
end Go.Proofs.Ythagjhadjpangaa.Cx

/- Calls that acme/acmelaw07.known makes, each known by a run of its own. Made by tools/cxkcalls.py. -/
namespace Go.Proofs.Ythagjhadjpangaa.Cx
set_option maxRecDepth 100000
set_option linter.unusedVariables false
open Go Go.Proofs Go.RowKit
def CxKn07K4 : KCall := ⟨30, [.agg [.bool (.c false), .int .i64 (.c (-1000)), .int .i64 (.c 1000), .int .i64 (.c (-500)), .int .i64 (.c 500), .slc (some (0, 0)) 2 2], .slc (some (1, 0)) 2 2, .int .i64 (.c 1)], [([.int .i64 (.c 10), .int .i64 (.c 20), .int .i64 (.c 50), .int .i64 (.c 100)], 2), ([.int .i64 (.c 200), .int .i64 (.c 0), .int .i64 (.c 100000), .int .i64 (.c 110000), .int .i64 (.c 100), .int .i64 (.c 1), .int .i64 (.c 100000), .int .i64 (.c 110000)], 4)], .tup [.int .i64 (.c 231), .int .i64 (.c 0)], []⟩
theorem CxKn07K4_run : CxKn07K4.says (eval (ctxOf Try.prog memo0) 1000 CxKn07K4.blks.length (.call CxKn07K4.g CxKn07K4.args) ⟨hB CxKn07K4.blks 0, CxKn07K4.blks.length, [], []⟩) = true := by kernel_rfl
theorem CxKn07K4_ok {ρ : Env} : CxKn07K4.Ok Try.prog ρ := KCall.of_run try_ok memo0_ok (by kernel_rfl) (by kernel_rfl) (by kernel_rfl) CxKn07K4_run
def CxKn07K5 : KCall := ⟨34, [.agg [.bool (.c false), .int .i64 (.c (-1000)), .int .i64 (.c 1000), .int .i64 (.c (-500)), .int .i64 (.c 500), .slc (some (0, 0)) 2 2], .slc (some (1, 0)) 2 2, .slc (some (2, 0)) 1 1], [([.int .i64 (.c 10), .int .i64 (.c 20), .int .i64 (.c 50), .int .i64 (.c 100)], 2), ([.int .i64 (.c 200), .int .i64 (.c 0), .int .i64 (.c 100000), .int .i64 (.c 110000), .int .i64 (.c 100), .int .i64 (.c 1), .int .i64 (.c 100000), .int .i64 (.c 110000)], 4), ([.int .i64 (.c 0), .int .i64 (.c 102000)], 2)], .tup [.int .i64 (.c 226), .int .i64 (.c 0)], []⟩
theorem CxKn07K5_run : CxKn07K5.says (eval (ctxOf Try.prog memo0) 1000 CxKn07K5.blks.length (.call CxKn07K5.g CxKn07K5.args) ⟨hB CxKn07K5.blks 0, CxKn07K5.blks.length, [], []⟩) = true := by kernel_rfl
theorem CxKn07K5_ok {ρ : Env} : CxKn07K5.Ok Try.prog ρ := KCall.of_run try_ok memo0_ok (by kernel_rfl) (by kernel_rfl) (by kernel_rfl) CxKn07K5_run
end Go.Proofs.Ythagjhadjpangaa.Cx

/- Calls that acme/acmelaw07.known makes, each known by a run of its own. Made by tools/cxkcalls.py. -/
namespace Go.Proofs.Ythagjhadjpangaa.Cx
set_option maxRecDepth 100000
set_option linter.unusedVariables false
open Go Go.Proofs Go.RowKit
def CxKn07K6 : KCall := ⟨35, [.agg [.bool (.c false), .int .i64 (.c (-1000)), .int .i64 (.c 1000), .int .i64 (.c (-500)), .int .i64 (.c 500), .slc (some (0, 0)) 2 2], .slc (some (1, 0)) 2 2, .slc (some (2, 0)) 2 2], [([.int .i64 (.c 10), .int .i64 (.c 20), .int .i64 (.c 50), .int .i64 (.c 100)], 2), ([.int .i64 (.c 200), .int .i64 (.c 0), .int .i64 (.c 100000), .int .i64 (.c 110000), .int .i64 (.c 100), .int .i64 (.c 1), .int .i64 (.c 100000), .int .i64 (.c 110000)], 4), ([.int .i64 (.c 0), .int .i64 (.c 231)], 1)], .tup [.int .i64 (.c (-1)), .int .i64 (.c 0)], []⟩
theorem CxKn07K6_run : CxKn07K6.says (eval (ctxOf Try.prog memo0) 1000 CxKn07K6.blks.length (.call CxKn07K6.g CxKn07K6.args) ⟨hB CxKn07K6.blks 0, CxKn07K6.blks.length, [], []⟩) = true := by kernel_rfl
theorem CxKn07K6_ok {ρ : Env} : CxKn07K6.Ok Try.prog ρ := KCall.of_run try_ok memo0_ok (by kernel_rfl) (by kernel_rfl) (by kernel_rfl) CxKn07K6_run
def CxKn07K7 : KCall := ⟨35, [.agg [.bool (.c false), .int .i64 (.c (-1000)), .int .i64 (.c 1000), .int .i64 (.c (-500)), .int .i64 (.c 500), .slc (some (0, 0)) 2 2], .slc (some (1, 0)) 2 2, .slc (some (2, 0)) 2 2], [([.int .i64 (.c 10), .int .i64 (.c 20), .int .i64 (.c 50), .int .i64 (.c 100)], 2), ([.int .i64 (.c 200), .int .i64 (.c 0), .int .i64 (.c 100000), .int .i64 (.c 110000), .int .i64 (.c 100), .int .i64 (.c 1), .int .i64 (.c 100000), .int .i64 (.c 110000)], 4), ([.int .i64 (.c 0), .int .i64 (.c 230)], 1)], .tup [.int .i64 (.c 0), .int .i64 (.c 0)], []⟩
theorem CxKn07K7_run : CxKn07K7.says (eval (ctxOf Try.prog memo0) 1000 CxKn07K7.blks.length (.call CxKn07K7.g CxKn07K7.args) ⟨hB CxKn07K7.blks 0, CxKn07K7.blks.length, [], []⟩) = true := by kernel_rfl
theorem CxKn07K7_ok {ρ : Env} : CxKn07K7.Ok Try.prog ρ := KCall.of_run try_ok memo0_ok (by kernel_rfl) (by kernel_rfl) (by kernel_rfl) CxKn07K7_run
end Go.Proofs.Ythagjhadjpangaa.Cx

/- Calls that acme/acmelaw07.known makes, each known by a run of its own. Made by tools/cxkcalls.py. -/
namespace Go.Proofs.Ythagjhadjpangaa.Cx
set_option maxRecDepth 100000
set_option linter.unusedVariables false
open Go Go.Proofs Go.RowKit
def CxKn07K8 : KCall := ⟨41, [.agg [.bool (.c false), .int .i64 (.c (-1000)), .int .i64 (.c 1000), .int .i64 (.c (-500)), .int .i64 (.c 500), .slc (some (0, 0)) 2 2], .agg [.int .i64 (.c 102400), .int .i64 (.c 103600)], .int .i64 (.c 1), .agg [.int .i64 (.c 100000), .int .i64 (.c 110000)]], [([.int .i64 (.c 10), .int .i64 (.c 20), .int .i64 (.c 50), .int .i64 (.c 100)], 2)], .tup [.int .i64 (.c 60), .int .i64 (.c 0)], []⟩
theorem CxKn07K8_run : CxKn07K8.says (eval (ctxOf Try.prog memo0) 1000 CxKn07K8.blks.length (.call CxKn07K8.g CxKn07K8.args) ⟨hB CxKn07K8.blks 0, CxKn07K8.blks.length, [], []⟩) = true := by kernel_rfl
theorem CxKn07K8_ok {ρ : Env} : CxKn07K8.Ok Try.prog ρ := KCall.of_run try_ok memo0_ok (by kernel_rfl) (by kernel_rfl) (by kernel_rfl) CxKn07K8_run
end Go.Proofs.Ythagjhadjpangaa.Cx

/- acme/acmelaw07.known returns true, in every world that holds what the listed variables hold: by the evaluator, its heavy calls by runs of their own. Made by tools/cxkcalls.py. -/
namespace Go.Proofs.Ythagjhadjpangaa.Cx
set_option maxRecDepth 100000
set_option linter.unusedVariables false
open Go Go.Proofs Go.RowKit
noncomputable def CxKn07C : Ctx := ctxOf Try.prog (memoK CxKn07K0 (memoK CxKn07K1 (memoK CxKn07K2 (memoK CxKn07K3 (memoK CxKn07K4 (memoK CxKn07K5 (memoK CxKn07K6 (memoK CxKn07K7 (memoK CxKn07K8 memo0)))))))))
theorem CxKn07_run : isTrue (eval CxKn07C 1000 0 (.call 14 []) .empty) = true := by kernel_rfl
theorem CxKn07_known : KnownB Try.prog 14 := known_of try_ok (memoK_ok CxKn07K0_ok (memoK_ok CxKn07K1_ok (memoK_ok CxKn07K2_ok (memoK_ok CxKn07K3_ok (memoK_ok CxKn07K4_ok (memoK_ok CxKn07K5_ok (memoK_ok CxKn07K6_ok (memoK_ok CxKn07K7_ok (memoK_ok CxKn07K8_ok memo0_ok))))))))) (by kernel_rfl) CxKn07_run
end Go.Proofs.Ythagjhadjpangaa.Cx

/- acme/acmelaw07.DieMosts as an automaton. Made by tools/cxauto.py. -/
namespace Go.Proofs.Ythagjhadjpangaa.Cx
set_option linter.unusedVariables false
set_option linter.unusedSimpArgs false
set_option maxRecDepth 100000
open Go Go.Proofs Go.RowKit
noncomputable abbrev dlmCode : Code := funcCode Try.f5
abbrev dlmN := Empty
abbrev dlmR := Bool
noncomputable def dlmD0 (a0 : Bool) (a1 a2 a3 a4 : Int) (a5 : Nat) (a6 a7 : Nat → Int) (a8 : Nat) (a9 a10 a11 a12 : Nat → Int) (a13 : Int) : DD (Lf dlmN dlmR) :=
 let z0 := decide (0 + a5 ≤ a5)
 let z1 := fun i => [CV.int IntKind.i64 (IE.x (a6 (0 + i))), CV.int IntKind.i64 (IE.x (a7 (0 + i)))]
 let z2 := ShapeOk [some IntKind.i64, some IntKind.i64] (tabOf a5 z1) z1
 let z3 := decide (0 + a8 ≤ a8)
 let z4 := fun i => [CV.int IntKind.i64 (IE.x (a9 (0 + i))), CV.int IntKind.i64 (IE.x (a10 (0 + i))), CV.int IntKind.i64 (IE.x (a11 (0 + i))), CV.int IntKind.i64 (IE.x (a12 (0 + i)))]
 let z5 := ShapeOk [some IntKind.i64, some IntKind.i64, some IntKind.i64, some IntKind.i64] (tabOf a8 z4) z4
 let z6 := fun i => a6 (0 + i)
 let z7 := fun i => a7 (0 + i)
 let z8 := fun i => a9 (0 + i)
 let z9 := fun i => a10 (0 + i)
 let z10 := fun i => a11 (0 + i)
 let z11 := fun i => a12 (0 + i)
 let z12 := rdkA a0 a1 a2 a3 a4 a5 z6 z7 a8 z8 z9 z10 z11
 let z13 := AF.fin z12
 let z14 := AF.val z12
 let z15 := rdaA a8 z8 z9 z10 z11
 let z16 := decide (a5 ≤ 10000)
 let z17 := decide (a8 ≤ 10000)
 let z18 := fun i => [CV.int IntKind.i64 (IE.x (a6 (0 + (0 + i)))), CV.int IntKind.i64 (IE.x (a7 (0 + (0 + i))))]
 let z19 := ShapeOk [some IntKind.i64, some IntKind.i64] (tabOf a5 z18) z18
 let z20 := decide (a5 ≤ a5)
 let z21 := fun i => [CV.int IntKind.i64 (IE.x (a9 (0 + (0 + i)))), CV.int IntKind.i64 (IE.x (a10 (0 + (0 + i)))), CV.int IntKind.i64 (IE.x (a11 (0 + (0 + i)))), CV.int IntKind.i64 (IE.x (a12 (0 + (0 + i))))]
 let z22 := ShapeOk [some IntKind.i64, some IntKind.i64, some IntKind.i64, some IntKind.i64] (tabOf a8 z21) z21
 let z23 := decide (a8 ≤ a8)
 let z24 := dmoA a0 a1 a2 a3 a4 a5 (fun i => a6 (0 + (0 + i))) (fun i => a7 (0 + (0 + i))) a8 (fun i => a9 (0 + (0 + i))) (fun i => a10 (0 + (0 + i))) (fun i => a11 (0 + (0 + i))) (fun i => a12 (0 + (0 + i))) a13
 let z25 := AF.fin z24
 let z26 := Cm.run .neq z14 0
 let z27 := AF.val z24
 let z28 := Prod.snd z27
 let z29 := Cm.run .eql z28 z14
 let z30 := Prod.fst z27
 let z31 := Cm.run .eql z30 0
 let z32 := Cm.run .geq a13 0
 let z33 := Cm.run .leq a13 1000
 let z34 := rdmA a0 a1 a2 a3 a4 a5 z6 z7 a8 z8 z9 z10 z11 a13
 let z35 := AF.fin z34
 let z36 := Cm.run .eql z30 (AF.val z34)
 let z37 := Cm.run .eql z28 3
 .ask (Cm.run .gtr ((↑a5 : Int)) 15)
   (.leaf (.done true []))
   (.ask (Cm.run .gtr ((↑a8 : Int)) 45)
   (.leaf (.done true []))
   (.must z0
   (.must z2
   (.must z3
   (.must z5
   (.must z13
   (.ask (Cm.run .eql z14 0)
   (.must z3
   (.must z5
   (.must (AF.fin z15)
   (.ask (Cm.run .gtr (AF.val z15) 60)
   (.leaf (.done true []))
   (.must z0
   (.must z16
   (.must z3
   (.must z17
   (.must z0
   (.must z19
   (.must z20
   (.must z3
   (.must z22
   (.must z23
   (.must z25
   (.must z0
   (.must z2
   (.must z3
   (.must z5
   (.must z13
   (.ask z26
   (.ask z29
   (.ask z31
   (.leaf (.done true []))
   (.leaf (.done false [])))
   (.leaf (.done false [])))
   (.ask z32
   (.ask z33
   (.must z0
   (.must z2
   (.must z3
   (.must z5
   (.must z35
   (.ask z29
   (.ask z36
   (.leaf (.done true []))
   (.leaf (.done false [])))
   (.leaf (.done false []))))))))
   (.ask z37
   (.ask z31
   (.leaf (.done true []))
   (.leaf (.done false [])))
   (.leaf (.done false []))))
   (.ask z37
   (.ask z31
   (.leaf (.done true []))
   (.leaf (.done false [])))
   (.leaf (.done false [])))))))))))))))))))))))))
   (.must z0
   (.must z16
   (.must z3
   (.must z17
   (.must z0
   (.must z19
   (.must z20
   (.must z3
   (.must z22
   (.must z23
   (.must z25
   (.must z0
   (.must z2
   (.must z3
   (.must z5
   (.must z13
   (.ask z26
   (.ask z29
   (.ask z31
   (.leaf (.done true []))
   (.leaf (.done false [])))
   (.leaf (.done false [])))
   (.ask z32
   (.ask z33
   (.must z0
   (.must z2
   (.must z3
   (.must z5
   (.must z35
   (.ask z29
   (.ask z36
   (.leaf (.done true []))
   (.leaf (.done false [])))
   (.leaf (.done false []))))))))
   (.ask z37
   (.ask z31
   (.leaf (.done true []))
   (.leaf (.done false [])))
   (.leaf (.done false []))))
   (.ask z37
   (.ask z31
   (.leaf (.done true []))
   (.leaf (.done false [])))
   (.leaf (.done false []))))))))))))))))))))))))))))

noncomputable def dlmD (a0 : Bool) (a1 a2 a3 a4 : Int) (a5 : Nat) (a6 a7 : Nat → Int) (a8 : Nat) (a9 a10 a11 a12 : Nat → Int) (a13 : Int) : dlmN → DD (Lf dlmN dlmR) := fun a => nomatch a
noncomputable def dlmA (a0 : Bool) (a1 a2 a3 a4 : Int) (a5 : Nat) (a6 a7 : Nat → Int) (a8 : Nat) (a9 a10 a11 a12 : Nat → Int) (a13 : Int) : AF dlmN dlmR where
  code := dlmCode
  base := 2
  nt := 49
  m := 400
  un := []
  W := []
  h0 := [(0, ⟨.arg a5 2 (fun i => [.int .i64 (.x (a6 i)), .int .i64 (.x (a7 i))]) (fun _ => ⟨rfl, rfl⟩), 2, true, none⟩), (1, ⟨.arg a8 4 (fun i => [.int .i64 (.x (a9 i)), .int .i64 (.x (a10 i)), .int .i64 (.x (a11 i)), .int .i64 (.x (a12 i))]) (fun _ => ⟨rfl, rfl⟩), 4, true, none⟩)]
  args := [.agg [.bool (.x a0), .int .i64 (.x a1), .int .i64 (.x a2), .int .i64 (.x a3), .int .i64 (.x a4), .sla 0 2 0 a5], .sla 1 4 0 a8, .int .i64 (.x a13)]
  res := (Try.f5).results.toList
  path := fun a => nomatch a
  pd := fun a => nomatch a
  D0 := dlmD0 a0 a1 a2 a3 a4 a5 a6 a7 a8 a9 a10 a11 a12 a13
  D := dlmD a0 a1 a2 a3 a4 a5 a6 a7 a8 a9 a10 a11 a12 a13
  rc := (fun v => .bool (.x v))
  rh := (fun v => [])
  rn := (fun v => 2)
  rx := (fun v => [])
  rgo := (fun _ => none)
theorem dlmstart (a0 : Bool) (a1 a2 a3 a4 : Int) (a5 : Nat) (a6 a7 : Nat → Int) (a8 : Nat) (a9 a10 a11 a12 : Nat → Int) (a13 : Int) : AF.edgeOk (dlmA a0 a1 a2 a3 a4 a5 a6 a7 a8 a9 a10 a11 a12 a13) (ctxOf Try.prog memo0) (dlmD0 a0 a1 a2 a3 a4 a5 a6 a7 a8 a9 a10 a11 a12 a13) (AF.run0 (dlmA a0 a1 a2 a3 a4 a5 a6 a7 a8 a9 a10 a11 a12 a13) (ctxOf Try.prog (memoS 21 rdkP rdkF rdkW rdkH 2 (memoS 22 rdaP rdaF rdaW rdaH 1 (memoS 30 dmoP dmoF dmoW dmoH 2 (memoS 31 rdmP rdmF rdmW rdmH 2 (memoB [14]))))))) := by unfold AF.edgeOk; kernel_rfl
theorem dlmok (a0 : Bool) (a1 a2 a3 a4 : Int) (a5 : Nat) (a6 a7 : Nat → Int) (a8 : Nat) (a9 a10 a11 a12 : Nat → Int) (a13 : Int) : (dlmA a0 a1 a2 a3 a4 a5 a6 a7 a8 a9 a10 a11 a12 a13).Ok Try.prog (ctxOf Try.prog (memoS 21 rdkP rdkF rdkW rdkH 2 (memoS 22 rdaP rdaF rdaW rdaH 1 (memoS 30 dmoP dmoF dmoW dmoH 2 (memoS 31 rdmP rdmF rdmW rdmH 2 (memoB [14])))))) where
  regs := by kernel_rfl
  h0 := by kernel_rfl
  start := dlmstart a0 a1 a2 a3 a4 a5 a6 a7 a8 a9 a10 a11 a12 a13
  node := fun a _ => nomatch a
  pd := fun a => nomatch a
  le := fun a => nomatch a
  rd := fun v => ⟨⟨fa_nil, fa_nil, fa_nil, rfl⟩, rfl⟩
  wb := rfl
theorem dlmhR {ρ : Env} (a0 : Bool) (a1 a2 a3 a4 : Int) (a5 : Nat) (a6 a7 : Nat → Int) (a8 : Nat) (a9 a10 a11 a12 : Nat → Int) (a13 : Int) (hM : MemoOk Try.prog (ctxOf Try.prog (memoS 21 rdkP rdkF rdkW rdkH 2 (memoS 22 rdaP rdaF rdaW rdaH 1 (memoS 30 dmoP dmoF dmoW dmoH 2 (memoS 31 rdmP rdmF rdmW rdmH 2 (memoB [14])))))) ρ) : ∀ X a q n D, FxOk ρ X → X.base = (dlmA a0 a1 a2 a3 a4 a5 a6 a7 a8 a9 a10 a11 a12 a13).base → X.nt = (dlmA a0 a1 a2 a3 a4 a5 a6 a7 a8 a9 a10 a11 a12 a13).nt → X.W = (dlmA a0 a1 a2 a3 a4 a5 a6 a7 a8 a9 a10 a11 a12 a13).W → (dlmA a0 a1 a2 a3 a4 a5 a6 a7 a8 a9 a10 a11 a12 a13).rgo a = some q → q n = some D → (dlmA a0 a1 a2 a3 a4 a5 a6 a7 a8 a9 a10 a11 a12 a13).RangeOk Try.prog ρ X a D := AF.noRange rfl
theorem dlmctr {ρ : Env} (a0 : Bool) (a1 a2 a3 a4 : Int) (a5 : Nat) (a6 a7 : Nat → Int) (a8 : Nat) (a9 a10 a11 a12 : Nat → Int) (a13 : Int) {n : Nat} {v : dlmR} (hM : MemoOk Try.prog (ctxOf Try.prog (memoS 21 rdkP rdkF rdkW rdkH 2 (memoS 22 rdaP rdaF rdaW rdaH 1 (memoS 30 dmoP dmoF dmoW dmoH 2 (memoS 31 rdmP rdmF rdmW rdmH 2 (memoB [14])))))) ρ) (hv : (dlmA a0 a1 a2 a3 a4 a5 a6 a7 a8 a9 a10 a11 a12 a13).run n = some v) :
    Ctr Try.prog ρ 5 (dlmA a0 a1 a2 a3 a4 a5 a6 a7 a8 a9 a10 a11 a12 a13).args (dlmA a0 a1 a2 a3 a4 a5 a6 a7 a8 a9 a10 a11 a12 a13).H0 (dlmA a0 a1 a2 a3 a4 a5 a6 a7 a8 a9 a10 a11 a12 a13).base (dlmA a0 a1 a2 a3 a4 a5 a6 a7 a8 a9 a10 a11 a12 a13).W ((dlmA a0 a1 a2 a3 a4 a5 a6 a7 a8 a9 a10 a11 a12 a13).rc v) (putH (dlmA a0 a1 a2 a3 a4 a5 a6 a7 a8 a9 a10 a11 a12 a13).H0 ((dlmA a0 a1 a2 a3 a4 a5 a6 a7 a8 a9 a10 a11 a12 a13).rh v ++ (dlmA a0 a1 a2 a3 a4 a5 a6 a7 a8 a9 a10 a11 a12 a13).rx v)) ((dlmA a0 a1 a2 a3 a4 a5 a6 a7 a8 a9 a10 a11 a12 a13).rn v) :=
  AF.ctr try_ok hM (dlmok a0 a1 a2 a3 a4 a5 a6 a7 a8 a9 a10 a11 a12 a13) (fn := Try.f5) Try.func5 rfl rfl (Nat.le_of_ble_eq_true rfl) rfl (dlmhR a0 a1 a2 a3 a4 a5 a6 a7 a8 a9 a10 a11 a12 a13 hM) hv
theorem dlmmem {ρ : Env} : MemoOk Try.prog (ctxOf Try.prog (memoS 21 rdkP rdkF rdkW rdkH 2 (memoS 22 rdaP rdaF rdaW rdaH 1 (memoS 30 dmoP dmoF dmoW dmoH 2 (memoS 31 rdmP rdmF rdmW rdmH 2 (memoB [14])))))) ρ := (memoS_ok (rdkknown rdkmem) (memoS_ok (rdaknown rdamem) (memoS_ok (dmoknown dmomem) (memoS_ok (rdmknown rdmmem) (memoB_ok (fun f hf => by
    simp only [List.mem_cons, List.not_mem_nil, or_false] at hf
    subst hf
    exact CxKn07_known))))))
abbrev dlmP : List AQ := [.agg [.bool, .int .i64, .int .i64, .int .i64, .int .i64, .rows [some .i64, some .i64]], .rows [some .i64, some .i64, some .i64, some .i64], .int .i64]
noncomputable def dlmF (v : AW) : AF dlmN dlmR := dlmA (v.b.getD 0 false) (v.i.getD 0 0) (v.i.getD 1 0) (v.i.getD 2 0) (v.i.getD 3 0) (v.t.getD 0 .none).n ((v.t.getD 0 .none).c 0) ((v.t.getD 0 .none).c 1) (v.t.getD 1 .none).n ((v.t.getD 1 .none).c 0) ((v.t.getD 1 .none).c 1) ((v.t.getD 1 .none).c 2) ((v.t.getD 1 .none).c 3) (v.i.getD 4 0)
noncomputable def dlmW : dlmR → CV := fun v => .bool (.x v)
noncomputable def dlmH : dlmR → List (Nat × Blk) := fun v => []
instance : Inhabited dlmR := ⟨false⟩
theorem dlmknown {ρ : Env} (hM : MemoOk Try.prog (ctxOf Try.prog (memoS 21 rdkP rdkF rdkW rdkH 2 (memoS 22 rdaP rdaF rdaW rdaH 1 (memoS 30 dmoP dmoF dmoW dmoH 2 (memoS 31 rdmP rdmF rdmW rdmH 2 (memoB [14])))))) ρ) : KnownS Try.prog ρ 5 dlmP dlmF dlmW dlmH 2 where
  fn := ⟨Try.f5, Try.func5, rfl⟩
  le := Nat.le_of_ble_eq_true rfl
  full := fun r => rfl
  rg := fun r => rfl
  hg := fun r => fa_nil
  ctr := fun v n r h => dlmctr (v.b.getD 0 false) (v.i.getD 0 0) (v.i.getD 1 0) (v.i.getD 2 0) (v.i.getD 3 0) (v.t.getD 0 .none).n ((v.t.getD 0 .none).c 0) ((v.t.getD 0 .none).c 1) (v.t.getD 1 .none).n ((v.t.getD 1 .none).c 0) ((v.t.getD 1 .none).c 1) ((v.t.getD 1 .none).c 2) ((v.t.getD 1 .none).c 3) (v.i.getD 4 0) hM h
end Go.Proofs.Ythagjhadjpangaa.Cx

/- Package die: Most, the program's and the reference's; DieMosts: the law's run. -/
namespace Go.Proofs.Ythagjhadjpangaa.Cx
set_option linter.unusedVariables false
set_option linter.unusedSimpArgs false
set_option maxRecDepth 100000
set_option maxHeartbeats 4000000
open Go Go.RowKit
section
variable {a0 : Bool} {a1 a2 a3 a4 : Int} {a5 : Nat} {a6 a7 : Nat → Int} {a8 : Nat} {a9 a10 a11 a12 : Nat → Int} {a13 : Int}
theorem rdf_val (h : JobOk a1 a2 a3 a4 a5 a6 a7 a8 a9 a10 a11 a12) (hT : 0 < PS a9 a8) (h3 : PS a9 a8 ≤ 9000) : AF.fin (rdfA a0 a1 a2 a3 a4 a5 a6 a7 a8 a9 a10 a11 a12) = true ∧ ((AF.val (rdfA a0 a1 a2 a3 a4 a5 a6 a7 a8 a9 a10 a11 a12)).1 : Int) = PS a9 a8 + 1 ∧ FewS (PS a9 a8) (loJ a0 a1 a3 a6 a7 a8 a9 a10 a11) (hiJ a0 a2 a4 a6 a7 a8 a9 a10 a12) (AF.val (rdfA a0 a1 a2 a3 a4 a5 a6 a7 a8 a9 a10 a11 a12)).1 (AF.val (rdfA a0 a1 a2 a3 a4 a5 a6 a7 a8 a9 a10 a11 a12)).2 := by
  obtain ⟨af, av⟩ := rda_val (a0 := a8) (a1 := a9) (a2 := a10) (a3 := a11) (a4 := a12) h.few h.pc
  have avE : AF.val (rdaA a8 (fun i => a9 i) (fun i => a10 i) (fun i => a11 i) (fun i => a12 i)) = _ := av
  have late := h.late (a0 := a0)
  refine AF.val_sat (A := rdfA a0 a1 a2 a3 a4 a5 a6 a7 a8 a9 a10 a11 a12) (E := fun v => (v.1 : Int) = PS a9 a8 + 1 ∧ FewS (PS a9 a8) (loJ a0 a1 a3 a6 a7 a8 a9 a10 a11) (hiJ a0 a2 a4 a6 a7 a8 a9 a10 a12) v.1 v.2)
    (Inv := fun b => match b with
      | .n0 p0 p1 p2 => p1 = p0 ∧ 1 ≤ p1 ∧ p1 ≤ PS a9 a8 + 1 ∧ FewS (PS a9 a8) (loJ a0 a1 a3 a6 a7 a8 a9 a10 a11) (hiJ a0 a2 a4 a6 a7 a8 a9 a10 a12) p0 p2
      | .n1 p0 p1 p2 p3 p4 p5 p6 => (p1 = p0 ∧ p5 = p0 ∧ p2 = p0) ∧ 1 ≤ p2 ∧ p2 ≤ PS a9 a8 ∧ -1 ≤ p4 ∧ p4 < p2 ∧ FewS (PS a9 a8) (loJ a0 a1 a3 a6 a7 a8 a9 a10 a11) (hiJ a0 a2 a4 a6 a7 a8 a9 a10 a12) p0 p6 ∧ BestS (loJ a0 a1 a3 a6 a7 a8 a9 a10 a11) (hiJ a0 a2 a4 a6 a7 a8 a9 a10 a12) p0 p6 p4 p3)
    (fun b => match b with | .n0 p0 p1 p2 => (PS a9 a8 + 1 - p1).toNat * 10000 | .n1 p0 p1 p2 p3 p4 p5 p6 => (PS a9 a8 - p2).toNat * 10000 + (p4 + 2).toNat) (fun b => rfl) (fun a hI => ?_) ?_
  · cases a with
    | n0 p0 p1 p2 =>
      obtain ⟨g0, g1, g2, g3⟩ := hI
      show DD.sat _ _ (rdfD a0 a1 a2 a3 a4 a5 a6 a7 a8 a9 a10 a11 a12 (.n0 p0 p1 p2))
      unfold rdfD
      have es : Ar.run .sub .i64 p1 1 = p1 - 1 := arSub (by omega)
      simp only [DD.sat, Nat.zero_add, cmLss, cmLssF, cmLeq, cmLeqF, cmGtr, cmGtrF, cmGeq, cmGeqF, cmEql, cmEqlF, cmNeq, cmNeqF, decide_eq_true_eq, Bool.not_eq_true', Bool.not_eq_false', avE, es]
      refine ⟨Nat.le_refl _, shape_ok fun i _ => rfl, af, fun hp => ⟨⟨⟨trivial, trivial, g0⟩, g1, hp, by omega, by omega, g3, ⟨by omega, by omega⟩, fun f f1 f2 => by omega, .inl rfl⟩, ?_⟩, fun hp => ⟨by omega, g3⟩⟩
      have e : (PS a9 a8 + 1 - p1).toNat = (PS a9 a8 - p1).toNat + 1 := by omega
      rw [e, Nat.add_mul]
      omega
    | n1 p0 p1 p2 p3 p4 p5 p6 =>
      obtain ⟨⟨rfl, rfl, rfl⟩, g1, g2, g3, g4, g5, ⟨b0, b1, b2⟩⟩ := hI
      show DD.sat _ _ (rdfD a0 a1 a2 a3 a4 a5 a6 a7 a8 a9 a10 a11 a12 (.n1 _ _ _ p3 p4 _ p6))
      unfold rdfD
      by_cases hq : 0 ≤ p4
      · have es : Ar.run .sub .i64 p4 1 = p4 - 1 := arSub (by omega)
        obtain ⟨tf, tv⟩ := rdt_val (a0 := a0) (a13 := p4) (a14 := p5) h hq (by omega) (by omega)
        have tvE : AF.val (rdtA a0 a1 a2 a3 a4 a5 (fun i => a6 i) (fun i => a7 i) a8 (fun i => a9 i) (fun i => a10 i) (fun i => a11 i) (fun i => a12 i) p4 p5) = _ := tv
        have fe := (g5 p4.toNat (by omega)).1
        have ea : Ar.run .add .i64 (p6 p4.toNat) 1 = p6 p4.toNat + 1 := arAdd (by omega)
        have e4 : ((p4.toNat : Nat) : Int) = p4 := Int.toNat_of_nonneg hq
        have skip : (p6 p4.toNat < 1000000 → CanP (loJ a0 a1 a3 a6 a7 a8 a9 a10 a11) (hiJ a0 a2 a4 a6 a7 a8 a9 a10 a12) p4 p5 → p3 ≤ p6 p4.toNat + 1) → BestS (loJ a0 a1 a3 a6 a7 a8 a9 a10 a11) (hiJ a0 a2 a4 a6 a7 a8 a9 a10 a12) p5 p6 (p4 - 1) p3 := fun hs => ⟨b0, fun f f1 f2 f3 f4 => by
          by_cases he : p4 < f
          · exact b1 f he f2 f3 f4
          · obtain rfl : f = p4.toNat := by omega
            rw [e4] at f4
            exact hs f3 f4, b2⟩
        simp only [DD.sat, Nat.zero_add, cmLss, cmLssF, cmLeq, cmLeqF, cmGtr, cmGtrF, cmGeq, cmGeqF, cmEql, cmEqlF, cmNeq, cmNeqF, decide_eq_true_eq, Bool.not_eq_true', Bool.not_eq_false', tvE, es, ea, arMn]
        refine ⟨fun _ => ⟨hq, by omega, by omega, fun hn => ⟨Nat.le_refl _, shape_ok fun i _ => rfl, Nat.le_refl _, shape_ok fun i _ => rfl, tf, fun hc => ⟨hq, by omega, by omega, ⟨⟨trivial, trivial, trivial⟩, g1, g2, by omega, by omega, g5, ⟨by omega, by omega⟩, fun f f1 f2 f3 f4 => ?_, ?_⟩, by omega⟩, fun hc => ⟨⟨⟨trivial, trivial, trivial⟩, g1, g2, by omega, by omega, g5, skip fun _ hx => absurd hx (Int.not_le.2 hc)⟩, by omega⟩⟩, fun hn => ⟨⟨⟨trivial, trivial, trivial⟩, g1, g2, by omega, by omega, g5, skip fun hx => by omega⟩, by omega⟩⟩, fun hx => by omega⟩
        · show min p3 (p6 p4.toNat + 1) ≤ p6 f + 1
          by_cases he : p4 < f
          · have := b1 f he f2 f3 f4
            omega
          · obtain rfl : f = p4.toNat := by omega
            omega
        · rcases b2 with b2 | ⟨f, f1, f2, f3, f4⟩
          · exact .inr ⟨p4.toNat, by omega, hn, by rw [e4]; exact hc, (show min p3 (p6 p4.toNat + 1) = p6 p4.toNat + 1 by omega)⟩
          · by_cases hm : p3 ≤ p6 p4.toNat + 1
            · exact .inr ⟨f, f1, f2, f3, (show min p3 (p6 p4.toNat + 1) = p6 f + 1 by omega)⟩
            · exact .inr ⟨p4.toNat, by omega, hn, by rw [e4]; exact hc, (show min p3 (p6 p4.toNat + 1) = p6 p4.toNat + 1 by omega)⟩
      · obtain rfl : p4 = -1 := by omega
        have ea : Ar.run .add .i64 (p5 : Int) 1 = (p5 : Int) + 1 := arAdd (by omega)
        simp only [DD.sat, Nat.zero_add, cmLss, cmLssF, cmLeq, cmLeqF, cmGtr, cmGtrF, cmGeq, cmGeqF, cmEql, cmEqlF, cmNeq, cmNeqF, decide_eq_true_eq, Bool.not_eq_true', Bool.not_eq_false', ea]
        refine ⟨fun hx => by omega, fun _ => ⟨Nat.le_refl _, by omega, ⟨by omega, by omega, by omega, fun j hj => ?_⟩, ?_⟩⟩
        · dsimp only
          by_cases he : j < p5
          · rw [bif_lt he]
            exact g5 j he
          · obtain rfl : j = p5 := by omega
            rw [bif_ge]
            exact ⟨b0, few_next late (by omega) (by omega) g2 g5 ⟨b0, b1, b2⟩⟩
        · have e : (PS a9 a8 + 1 - ((p5 : Int) + 1)).toNat = (PS a9 a8 - p5).toNat := by omega
          rw [e]
          omega
  · refine ⟨rfl, Int.le_refl _, by omega, fun j hj => ?_⟩
    obtain rfl : j = 0 := by omega
    refine ⟨⟨Int.le_refl _, (by decide : (0 : Int) ≤ 1000000)⟩, fun k _ => ?_⟩
    have r := GE_rng late (by omega) k
    show (0 : Int) ≤ k ↔ _
    constructor <;> intro _ <;> omega
theorem rdm_val (h : JobOk a1 a2 a3 a4 a5 a6 a7 a8 a9 a10 a11 a12) (hT : 0 < PS a9 a8) (h3 : PS a9 a8 ≤ 9000) (hs : 0 ≤ a13 ∧ a13 ≤ 1000) : AF.fin (rdmA a0 a1 a2 a3 a4 a5 a6 a7 a8 a9 a10 a11 a12 a13) = true ∧ AF.val (rdmA a0 a1 a2 a3 a4 a5 a6 a7 a8 a9 a10 a11 a12 a13) = GE (PS a9 a8) (loJ a0 a1 a3 a6 a7 a8 a9 a10 a11) (hiJ a0 a2 a4 a6 a7 a8 a9 a10 a12) a13.toNat := by
  obtain ⟨ff, fn, fs⟩ := rdf_val (a0 := a0) h hT h3
  have late := h.late (a0 := a0)
  have gr := GE_rng late (by omega) a13.toNat
  obtain ⟨G, hG⟩ : ∃ G, GE (PS a9 a8) (loJ a0 a1 a3 a6 a7 a8 a9 a10 a11) (hiJ a0 a2 a4 a6 a7 a8 a9 a10 a12) a13.toNat = G := ⟨_, rfl⟩
  rw [hG] at gr ⊢
  have key : ∀ j, j < (AF.val (rdfA a0 a1 a2 a3 a4 a5 a6 a7 a8 a9 a10 a11 a12)).1 → ((AF.val (rdfA a0 a1 a2 a3 a4 a5 a6 a7 a8 a9 a10 a11 a12)).2 j ≤ a13 ↔ (j : Int) ≤ G) := fun j hj => by
    have := (fs j hj).2 a13.toNat (by omega)
    rw [Int.toNat_of_nonneg hs.1, hG] at this
    exact this
  refine AF.val_sat (A := rdmA a0 a1 a2 a3 a4 a5 a6 a7 a8 a9 a10 a11 a12 a13) (E := fun v => v = G)
    (Inv := fun b => match b with | .n0 p0 p1 p2 p3 p4 p5 => (p0 : Int) = PS a9 a8 + 1 ∧ p4 = p0 ∧ 0 ≤ p3 ∧ p3 ≤ p0 ∧ (∀ j, j < p0 → (p5 j ≤ a13 ↔ (j : Int) ≤ G)) ∧ p2 = max 0 (min G (p3 - 1)))
    (fun b => match b with | .n0 p0 p1 p2 p3 p4 p5 => (p0 - p3).toNat) (fun b => rfl) (fun a hI => ?_) ?_
  · cases a with
    | n0 p0 p1 p2 p3 p4 p5 =>
      obtain ⟨g0, rfl, g1, g2, g3, g4⟩ := hI
      show DD.sat _ _ (rdmD a0 a1 a2 a3 a4 a5 a6 a7 a8 a9 a10 a11 a12 a13 (.n0 _ p1 p2 p3 _ p5))
      unfold rdmD
      by_cases hq : p3 < p4
      · have ea : Ar.run .add .i64 p3 1 = p3 + 1 := arAdd (by omega)
        have k := g3 p3.toNat (by omega)
        rw [Int.toNat_of_nonneg g1] at k
        simp only [DD.sat, Nat.zero_add, cmLss, cmLssF, cmLeq, cmLeqF, cmGtr, cmGtrF, cmGeq, cmGeqF, cmEql, cmEqlF, cmNeq, cmNeqF, decide_eq_true_eq, Bool.not_eq_true', Bool.not_eq_false', ea]
        refine ⟨fun _ => ⟨g1, hq, by omega, fun hl => ⟨⟨g0, trivial, by omega, by omega, g3, ?_⟩, by omega⟩, fun hl => ⟨⟨g0, trivial, by omega, by omega, g3, ?_⟩, by omega⟩⟩, fun hx => by omega⟩
        · have := k.1 hl
          omega
        · have : ¬ p3 ≤ G := fun hx => by have := k.2 hx; omega
          omega
      · simp only [DD.sat, Nat.zero_add, cmLss, cmLssF, cmLeq, cmLeqF, cmGtr, cmGtrF, cmGeq, cmGeqF, cmEql, cmEqlF, cmNeq, cmNeqF, decide_eq_true_eq, Bool.not_eq_true', Bool.not_eq_false']
        exact ⟨fun hx => by omega, fun _ => (by
          have e : p3 = PS a9 a8 + 1 := by omega
          have e2 : p2 = max 0 (min G (p3 - 1)) := g4
          show (p2 : Int) = G
          rw [e] at e2
          omega)⟩
  · show DD.sat _ _ (rdmD0 a0 a1 a2 a3 a4 a5 a6 a7 a8 a9 a10 a11 a12 a13)
    unfold rdmD0
    simp only [DD.sat, Nat.zero_add, cmLss, cmLssF, cmLeq, cmLeqF, cmGtr, cmGtrF, cmGeq, cmGeqF, cmEql, cmEqlF, cmNeq, cmNeqF, decide_eq_true_eq, Bool.not_eq_true', Bool.not_eq_false']
    refine ⟨Nat.le_refl _, shape_ok fun i _ => rfl, Nat.le_refl _, shape_ok fun i _ => rfl, ff, fn, trivial, Int.le_refl _, ?_, key, by omega⟩
    exact Int.natCast_nonneg _
def DmsS (G : Int) : dmos0R → Prop
  | .r0 q0 q1 => q1 = G
  | .r1 q0 q1 => q1 = G
theorem dms_gen (h : JobOk a1 a2 a3 a4 a5 a6 a7 a8 a9 a10 a11 a12) (hs : 0 ≤ a13 ∧ a13 ≤ 1000) : ∃ n v, AF.run (dmos0A a0 a1 a2 a3 a4 a5 a6 a7 a8 a9 a10 a11 a12 a13 a0 a1 a2 a3 a4 a5 a8 (PS a9 a8)) n = some v ∧ DmsS (GE (PS a9 a8) (loJ a0 a1 a3 a6 a7 a8 a9 a10 a11) (hiJ a0 a2 a4 a6 a7 a8 a9 a10 a12) a13.toNat) v := by
  have late := h.late (a0 := a0)
  have r := PS_rng h.pc a8 (Nat.le_refl _)
  refine AF.run_sat (E := DmsS (GE (PS a9 a8) (loJ a0 a1 a3 a6 a7 a8 a9 a10 a11) (hiJ a0 a2 a4 a6 a7 a8 a9 a10 a12) a13.toNat)) (Inv := fun b => match b with | .n0 q0 q1 => 0 ≤ q1 ∧ q1 ≤ a13 ∧ q0 = GE (PS a9 a8) (loJ a0 a1 a3 a6 a7 a8 a9 a10 a11) (hiJ a0 a2 a4 a6 a7 a8 a9 a10 a12) (a13 - q1).toNat)
    (fun b => match b with | .n0 q0 q1 => q1.toNat) (fun b => rfl) (fun a hI => ?_) ?_
  · cases a with
    | n0 q0 q1 =>
      obtain ⟨g0, g1, g2⟩ := hI
      have gr := GE_rng late (by omega) (a13 - q1).toNat
      rw [← g2] at gr
      have stuck : JO (PS a9 a8) (loJ a0 a1 a3 a6 a7 a8 a9 a10 a11) (hiJ a0 a2 a4 a6 a7 a8 a9 a10 a12) q0 = 0 → q0 = GE (PS a9 a8) (loJ a0 a1 a3 a6 a7 a8 a9 a10 a11) (hiJ a0 a2 a4 a6 a7 a8 a9 a10 a12) a13.toNat := fun hj => by
        rw [g2] at hj
        have := GE_stuck late hj q1.toNat
        rw [show (a13 - q1).toNat + q1.toNat = a13.toNat by omega] at this
        rw [this, g2]
      show DD.sat _ _ (dmos0D a0 a1 a2 a3 a4 a5 a6 a7 a8 a9 a10 a11 a12 a13 a0 a1 a2 a3 a4 a5 a8 (PS a9 a8) (.n0 q0 q1))
      unfold dmos0D
      by_cases hq : q0 < PS a9 a8
      · obtain ⟨rf, x, y, z, rv, hR⟩ := drc_gen (a0 := a0) (a13 := PS a9 a8) (a14 := -10000000000) (a15 := 20000000000) (a16 := q0) (a17 := PS a9 a8) h gr.1 (by omega) (Int.le_refl _)
        obtain ⟨J, hJ, rfl, _⟩ := rj_of h gr.1 hq hR
        have ej := JO_of late gr.1 gr.2 hJ
        have rvE : AF.val (drcA a0 a1 a2 a3 a4 a5 (fun i => a6 i) (fun i => a7 i) a8 (fun i => a9 i) (fun i => a10 i) (fun i => a11 i) (fun i => a12 i) (PS a9 a8) (-10000000000) 20000000000 q0 (PS a9 a8)) = _ := rv
        have es : Ar.run .sub .i64 q1 1 = q1 - 1 := arSub (by omega)
        simp only [DD.sat, Nat.zero_add, cmLss, cmLssF, cmLeq, cmLeqF, cmGtr, cmGtrF, cmGeq, cmGeqF, cmEql, cmEqlF, cmNeq, cmNeqF, decide_eq_true_eq, Bool.not_eq_true', Bool.not_eq_false', rvE, es]
        refine ⟨fun _ => ⟨Nat.le_refl _, shape_ok fun i _ => rfl, Nat.le_refl _, shape_ok fun i _ => rfl, rf, fun hx => stuck (by omega), fun hx => ⟨fun hz => ?_, fun hz => ⟨⟨by omega, by omega, ?_⟩, by omega⟩⟩⟩, fun hx => by omega⟩
        · rw [hz, show (a13 - 0).toNat = a13.toNat by omega] at g2
          exact g2
        · rw [show (a13 - (q1 - 1)).toNat = (a13 - q1).toNat + 1 by omega, GE, ← g2, ej]
      · simp only [DD.sat, Nat.zero_add, cmLss, cmLssF, cmLeq, cmLeqF, cmGtr, cmGtrF, cmGeq, cmGeqF, cmEql, cmEqlF, cmNeq, cmNeqF, decide_eq_true_eq, Bool.not_eq_true', Bool.not_eq_false']
        refine ⟨fun hx => by omega, fun _ => stuck ?_⟩
        have := (JO_spec late gr.1 gr.2).1
        omega
  · show 0 ≤ a13 ∧ a13 ≤ a13 ∧ (0 : Int) = GE _ _ _ (a13 - a13).toNat
    rw [show (a13 - a13).toNat = 0 by omega]
    exact ⟨hs.1, Int.le_refl _, rfl⟩
def MosE (a0 : Bool) (a1 a2 a3 a4 : Int) (a5 : Nat) (a6 a7 : Nat → Int) (a8 : Nat) (a9 a10 a11 a12 : Nat → Int) (a13 : Int) (v : Int × Int) : Prop :=
  ∃ e, CkS a5 a8 (ToolOk a5 a6 a7 a1 a2 a3 a4) a9 a10 a11 a12 e ∧ (e ≠ 0 ∧ v = (0, e) ∨ e = 0 ∧ (¬ (0 ≤ a13 ∧ a13 ≤ 1000) ∧ v = (0, 3) ∨
    (0 ≤ a13 ∧ a13 ≤ 1000) ∧ v = (GE (PS a9 a8) (loJ a0 a1 a3 a6 a7 a8 a9 a10 a11) (hiJ a0 a2 a4 a6 a7 a8 a9 a10 a12) a13.toNat, 0)))
theorem dmo_mono : AF.Mono (dmoA a0 a1 a2 a3 a4 a5 a6 a7 a8 a9 a10 a11 a12 a13) := AF.mono_map fun a => by
  cases a with
  | n0 p0 p1 p2 p3 p4 p5 p6 p7 => exact .inr ⟨_, _, _, _, AF.mono_none (fun _ => rfl), rfl⟩
theorem dmo_val (hn : a5 ≤ 10000) (hm : a8 ≤ 10000) : AF.fin (dmoA a0 a1 a2 a3 a4 a5 a6 a7 a8 a9 a10 a11 a12 a13) = true ∧ MosE a0 a1 a2 a3 a4 a5 a6 a7 a8 a9 a10 a11 a12 a13 (AF.val (dmoA a0 a1 a2 a3 a4 a5 a6 a7 a8 a9 a10 a11 a12 a13)) := by
  obtain ⟨hf, e, hC, hv⟩ := dsh_val (a0 := a0) (a1 := a1) (a2 := a2) (a3 := a3) (a4 := a4) (a5 := a5) (a6 := a6) (a7 := a7) (a8 := a8) (a9 := a9) (a10 := a10) (a11 := a11) (a12 := a12) hn hm
  refine AF.val_satR (A := dmoA a0 a1 a2 a3 a4 a5 a6 a7 a8 a9 a10 a11 a12 a13) (E := MosE a0 a1 a2 a3 a4 a5 a6 a7 a8 a9 a10 a11 a12 a13) (Inv := fun b => match b with | .n0 p0 p1 p2 p3 p4 p5 p6 p7 => (p0 = a0 ∧ p1 = a1 ∧ p2 = a2 ∧ p3 = a3 ∧ p4 = a4 ∧ p5 = a5 ∧ p6 = a8 ∧ p7 = PS a9 a8) ∧ e = 0 ∧ 0 ≤ a13 ∧ a13 ≤ 1000) dmo_mono (fun _ => 0) (fun a hI => .inr ?_) ?_
  · cases a with
    | n0 p0 p1 p2 p3 p4 p5 p6 p7 =>
      obtain ⟨⟨rfl, rfl, rfl, rfl, rfl, rfl, rfl, rfl⟩, rfl, g0, g1⟩ := hI
      obtain ⟨n, v, hv, hE⟩ := dms_gen (a0 := p0) hC.job ⟨g0, g1⟩
      refine ⟨_, n, dmoRg0 p0 p1 p2 p3 p4 p5 a6 a7 p6 a9 a10 a11 a12 a13 p0 p1 p2 p3 p4 p5 p6 (PS a9 p6) v, rfl, ?_, ?_⟩
      · show Option.map _ (AF.run _ n) = _
        rw [hv]; rfl
      · cases v with
        | r0 q0 q1 =>
          obtain rfl : q1 = _ := hE
          exact ⟨0, hC, .inr ⟨rfl, .inr ⟨⟨g0, g1⟩, rfl⟩⟩⟩
        | r1 q0 q1 =>
          obtain rfl : q1 = _ := hE
          exact ⟨0, hC, .inr ⟨rfl, .inr ⟨⟨g0, g1⟩, rfl⟩⟩⟩
  · show DD.sat _ _ (dmoD0 a0 a1 a2 a3 a4 a5 a6 a7 a8 a9 a10 a11 a12 a13)
    unfold dmoD0
    rcases hv with ⟨he, hv⟩ | ⟨rfl, hv⟩
    · have hv' : AF.val (dshA a0 a1 a2 a3 a4 a5 (fun i => a6 i) (fun i => a7 i) a8 (fun i => a9 i) (fun i => a10 i) (fun i => a11 i) (fun i => a12 i)) = .r0 e := hv
      simp only [DD.sat, Nat.zero_add, cmLss, cmLssF, cmLeq, cmLeqF, cmGtr, cmGtrF, cmGeq, cmGeqF, cmEql, cmEqlF, cmNeq, cmNeqF, decide_eq_true_eq, Bool.not_eq_true', Bool.not_eq_false', hv', dshw8]
      refine ⟨Nat.le_refl _, shape_ok fun i _ => rfl, Nat.le_refl _, shape_ok fun i _ => rfl, hf, fun _ => ⟨e, hC, .inl ⟨he, rfl⟩⟩, fun hx => absurd hx he⟩
    · have hv' : AF.val (dshA a0 a1 a2 a3 a4 a5 (fun i => a6 i) (fun i => a7 i) a8 (fun i => a9 i) (fun i => a10 i) (fun i => a11 i) (fun i => a12 i)) = .r1 a0 a1 a2 a3 a4 a5 a8 (PS a9 a8) := hv
      have bad : ¬ (0 ≤ a13 ∧ a13 ≤ 1000) → MosE a0 a1 a2 a3 a4 a5 a6 a7 a8 a9 a10 a11 a12 a13 (0, 3) := fun hb => ⟨0, hC, .inr ⟨rfl, .inl ⟨hb, rfl⟩⟩⟩
      simp only [DD.sat, Nat.zero_add, cmLss, cmLssF, cmLeq, cmLeqF, cmGtr, cmGtrF, cmGeq, cmGeqF, cmEql, cmEqlF, cmNeq, cmNeqF, decide_eq_true_eq, Bool.not_eq_true', Bool.not_eq_false', hv', dshw0, dshw1, dshw2, dshw3, dshw4, dshw5, dshw6, dshw7, dshw8]
      refine ⟨Nat.le_refl _, shape_ok fun i _ => rfl, Nat.le_refl _, shape_ok fun i _ => rfl, hf, fun hx => absurd rfl hx, fun _ => ⟨fun h => bad (by omega), fun h1 => ⟨fun h => bad (by omega), fun h2 => (by repeat' (first | trivial | omega | apply And.intro))⟩⟩⟩
end
theorem dlm_sat (a0 : Bool) (a1 a2 a3 a4 : Int) (a5 : Nat) (a6 a7 : Nat → Int) (a8 : Nat) (a9 a10 a11 a12 : Nat → Int) (a13 : Int) : DD.sat (fun _ => False) (fun v => v = true) (dlmD0 a0 a1 a2 a3 a4 a5 a6 a7 a8 a9 a10 a11 a12 a13) := by
  by_cases hb1 : a5 > 15
  · unfold dlmD0
    simp only [DD.sat, cmGtr, cmGtrF]
    exact ⟨fun h => trivial, fun h => by omega⟩
  by_cases hb2 : a8 > 45
  · unfold dlmD0
    simp only [DD.sat, cmGtr, cmGtrF]
    exact ⟨fun h => trivial, fun h => ⟨fun h => trivial, fun h => by omega⟩⟩
  have hn' : a5 ≤ 10000 := by omega
  have hm' : a8 ≤ 10000 := by omega
  obtain ⟨cf, cs⟩ := dck_val (a0 := a0) (a1 := a1) (a2 := a2) (a3 := a3) (a4 := a4) (a5 := a5) (a6 := a6) (a7 := a7) (a8 := a8) (a9 := a9) (a10 := a10) (a11 := a11) (a12 := a12) hn' hm'
  obtain ⟨kf, ks⟩ := rdk_val (a0 := a0) (a1 := a1) (a2 := a2) (a3 := a3) (a4 := a4) (a5 := a5) (a6 := a6) (a7 := a7) (a8 := a8) (a9 := a9) (a10 := a10) (a11 := a11) (a12 := a12) hn' hm'
  by_cases hbig : CkS a5 a8 (ToolOk a5 a6 a7 a1 a2 a3 a4) a9 a10 a11 a12 0 ∧ PS a9 a8 > 60
  · obtain ⟨hC, hbig⟩ := hbig
    have kvE : AF.val (rdkA a0 a1 a2 a3 a4 a5 (fun i => a6 i) (fun i => a7 i) a8 (fun i => a9 i) (fun i => a10 i) (fun i => a11 i) (fun i => a12 i)) = 0 := ks.same hC
    obtain ⟨af, av⟩ := rda_val (a0 := a8) (a1 := a9) (a2 := a10) (a3 := a11) (a4 := a12) hC.job.few hC.job.pc
    have avE : AF.val (rdaA a8 (fun i => a9 i) (fun i => a10 i) (fun i => a11 i) (fun i => a12 i)) = _ := av
    unfold dlmD0
    simp only [DD.sat, Nat.zero_add, cmLss, cmLssF, cmLeq, cmLeqF, cmGtr, cmGtrF, cmGeq, cmGeqF, cmEql, cmEqlF, cmNeq, cmNeqF, decide_eq_true_eq, Bool.not_eq_true', Bool.not_eq_false', kvE, avE]
    repeat' (first
      | exact Nat.le_refl _
      | exact shape_ok fun i _ => rfl
      | assumption
      | trivial
      | (intro hx; first | (exfalso; omega) | skip)
      | apply And.intro)
  have hp : CkS a5 a8 (ToolOk a5 a6 a7 a1 a2 a3 a4) a9 a10 a11 a12 0 → PS a9 a8 ≤ 60 := fun h => Int.not_lt.1 fun hx => hbig ⟨h, hx⟩
  obtain ⟨mf, e, hC, mv⟩ := dmo_val (a0 := a0) (a1 := a1) (a2 := a2) (a3 := a3) (a4 := a4) (a5 := a5) (a6 := a6) (a7 := a7) (a8 := a8) (a9 := a9) (a10 := a10) (a11 := a11) (a12 := a12) (a13 := a13) hn' hm'
  have kv : AF.val (rdkA a0 a1 a2 a3 a4 a5 a6 a7 a8 a9 a10 a11 a12) = e := ks.same hC
  clear cs ks
  have kvE : AF.val (rdkA a0 a1 a2 a3 a4 a5 (fun i => a6 i) (fun i => a7 i) a8 (fun i => a9 i) (fun i => a10 i) (fun i => a11 i) (fun i => a12 i)) = e := kv
  unfold dlmD0
  rcases mv with ⟨he, mv⟩ | ⟨he, mv⟩
  · have mvE : AF.val (dmoA a0 a1 a2 a3 a4 a5 (fun i => a6 i) (fun i => a7 i) a8 (fun i => a9 i) (fun i => a10 i) (fun i => a11 i) (fun i => a12 i) a13) = _ := mv
    simp only [DD.sat, Nat.zero_add, cmLss, cmLssF, cmLeq, cmLeqF, cmGtr, cmGtrF, cmGeq, cmGeqF, cmEql, cmEqlF, cmNeq, cmNeqF, decide_eq_true_eq, Bool.not_eq_true', Bool.not_eq_false', kvE, mvE]
    repeat' (first
      | exact Nat.le_refl _
      | exact shape_ok fun i _ => rfl
      | assumption
      | trivial
      | (intro hx; first | (exfalso; omega) | skip)
      | apply And.intro)
  · subst he
    have job := hC.job
    have hT := JobOk.pos hC
    have h3 := hp hC
    obtain ⟨af, av⟩ := rda_val (a0 := a8) (a1 := a9) (a2 := a10) (a3 := a11) (a4 := a12) job.few job.pc
    have avE : AF.val (rdaA a8 (fun i => a9 i) (fun i => a10 i) (fun i => a11 i) (fun i => a12 i)) = _ := av
    rcases mv with ⟨hr, mv⟩ | ⟨hr, mv⟩
    · have mvE : AF.val (dmoA a0 a1 a2 a3 a4 a5 (fun i => a6 i) (fun i => a7 i) a8 (fun i => a9 i) (fun i => a10 i) (fun i => a11 i) (fun i => a12 i) a13) = _ := mv
      simp only [DD.sat, Nat.zero_add, cmLss, cmLssF, cmLeq, cmLeqF, cmGtr, cmGtrF, cmGeq, cmGeqF, cmEql, cmEqlF, cmNeq, cmNeqF, decide_eq_true_eq, Bool.not_eq_true', Bool.not_eq_false', kvE, mvE, avE]
      repeat' (first
      | exact Nat.le_refl _
      | exact shape_ok fun i _ => rfl
      | assumption
      | trivial
      | (intro hx; first | (exfalso; omega) | skip)
      | apply And.intro)
    · obtain ⟨qf, qv⟩ := rdm_val (a0 := a0) job hT (by omega) hr
      have mvE : AF.val (dmoA a0 a1 a2 a3 a4 a5 (fun i => a6 i) (fun i => a7 i) a8 (fun i => a9 i) (fun i => a10 i) (fun i => a11 i) (fun i => a12 i) a13) = _ := mv
      have qvE : AF.val (rdmA a0 a1 a2 a3 a4 a5 (fun i => a6 i) (fun i => a7 i) a8 (fun i => a9 i) (fun i => a10 i) (fun i => a11 i) (fun i => a12 i) a13) = _ := qv
      generalize GE (PS a9 a8) (loJ a0 a1 a3 a6 a7 a8 a9 a10 a11) (hiJ a0 a2 a4 a6 a7 a8 a9 a10 a12) a13.toNat = G at *
      simp only [DD.sat, Nat.zero_add, cmLss, cmLssF, cmLeq, cmLeqF, cmGtr, cmGtrF, cmGeq, cmGeqF, cmEql, cmEqlF, cmNeq, cmNeqF, decide_eq_true_eq, Bool.not_eq_true', Bool.not_eq_false', kvE, mvE, avE, qvE]
      repeat' (first
      | exact Nat.le_refl _
      | exact shape_ok fun i _ => rfl
      | assumption
      | trivial
      | (intro hx; first | (exfalso; omega) | skip)
      | apply And.intro)
theorem dlm_run (a0 : Bool) (a1 a2 a3 a4 : Int) (a5 : Nat) (a6 a7 : Nat → Int) (a8 : Nat) (a9 a10 a11 a12 : Nat → Int) (a13 : Int) (_ : -9223372036854775808 ≤ a1 ∧ a1 ≤ 9223372036854775807) (_ : -9223372036854775808 ≤ a2 ∧ a2 ≤ 9223372036854775807) (_ : -9223372036854775808 ≤ a3 ∧ a3 ≤ 9223372036854775807) (_ : -9223372036854775808 ≤ a4 ∧ a4 ≤ 9223372036854775807) (hn : a5 ≤ 9223372036854775807) (_ : ∀ i, -9223372036854775808 ≤ a6 i ∧ a6 i ≤ 9223372036854775807) (_ : ∀ i, -9223372036854775808 ≤ a7 i ∧ a7 i ≤ 9223372036854775807) (hm : a8 ≤ 9223372036854775807) (_ : ∀ i, -9223372036854775808 ≤ a9 i ∧ a9 i ≤ 9223372036854775807) (_ : ∀ i, -9223372036854775808 ≤ a10 i ∧ a10 i ≤ 9223372036854775807) (_ : ∀ i, -9223372036854775808 ≤ a11 i ∧ a11 i ≤ 9223372036854775807) (_ : ∀ i, -9223372036854775808 ≤ a12 i ∧ a12 i ≤ 9223372036854775807) (_ : -9223372036854775808 ≤ a13 ∧ a13 ≤ 9223372036854775807) :
    ∃ n v, AF.run (dlmA a0 a1 a2 a3 a4 a5 a6 a7 a8 a9 a10 a11 a12 a13) n = some v ∧ v = true := by
  refine AF.run_sat (E := fun v => v = true) (Inv := fun b => False) (fun b => 0) (fun b => rfl) (fun b h => h.elim) ?_
  exact dlm_sat a0 a1 a2 a3 a4 a5 a6 a7 a8 a9 a10 a11 a12 a13
end Go.Proofs.Ythagjhadjpangaa.Cx

/- ARGUMENTS THAT ARE SLICES: opened as lists; the memory in which they lie as blocks that are read alone; a law's contract as its statement's walk. -/
namespace Go.Proofs.Ythagjhadjpangaa.Cx
set_option linter.unusedSimpArgs false
set_option linter.unusedVariables false
open Go Go.RowKit Go.ChangeShapes Go.WideShapes Go.Deep Go.Proofs.Ythagjhadjpangaa
/-! ## Such slices as blocks -/
section
variable {P : Program} {ρ : Env}
/-- Where a slice's rows lie. -/
noncomputable def locOf (w : World) (v : Value) (z : Nat) : Option Loc :=
  match v with
  | .slice (some a) (_ + 1) _ => match w.heap[a.block]? with
    | some (.cells c _ _) => some ⟨a.block, a.off, c.size, z⟩
    | _ => none
  | _ => none
theorem rows_rel {α : Type} {en : α → List Value} {ec : α → List CV} {d : α} (he : ∀ σ x, VRl ρ σ (ec x) (en x)) (σ : Mp) : ∀ (xs : List α) (n : Nat), n ≤ xs.length → VRl ρ σ (flatR (fun j => ec (xs.getD j d)) n) ((xs.take n).flatMap en)
  | xs, 0, _ => by simpa [flatR] using VRl.nil
  | xs, n + 1, h => by
    have ih := rows_rel (d := d) he σ xs n (by omega)
    rw [flatR, List.take_add_one, List.flatMap_append]
    refine ih.append ?_
    have hn : n < xs.length := by omega
    rw [List.getElem?_eq_getElem hn, List.getD_eq_getElem?_getD, List.getElem?_eq_getElem hn]
    simpa using he σ xs[n]
theorem SlR.rel {α : Type} {en : α → List Value} {ec : α → List CV} {d : α} {z : Nat} {w : World} {v : Value} {xs : List α} {σ : Mp} {b : Nat} (h : SlR en z w v xs) (hz : ∀ x, (en x).length = z) (he : ∀ σ x, VRl ρ σ (ec x) (en x))
    (hk : ∀ j, (ec (xs.getD j d)).length = z ∧ (ec (xs.getD j d)).all CV.flat = true) (hσ : σ b = locOf w v z) :
    VR ρ σ (.sla b z 0 xs.length) v ∧ ArgAt ρ w ⟨.arg xs.length z (fun j => ec (xs.getD j d)) hk, z, true, none⟩ (σ b) := by
  obtain ⟨a, cap, rfl, hcap, _, hx⟩ := h
  have hcl : Blk.cells ⟨.arg xs.length z (fun j => ec (xs.getD j d)) hk, z, true, none⟩ = flatR (fun j => ec (xs.getD j d)) xs.length := rfl
  have hlen := flatR_length (fun j => (hk j).1) xs.length
  rcases hx with rfl | ⟨bl, off, c, t, p, rfl, hh, hsz, hrow⟩
  · refine ⟨.sla0 _ _, rfl, rfl, rfl, fun l hl => ?_⟩
    rw [hσ] at hl
    simp [locOf] at hl
  · cases xs with
    | nil =>
      refine ⟨.sla0 _ _, rfl, rfl, rfl, fun l hl => ?_⟩
      rw [hσ] at hl
      simp [locOf] at hl
    | cons x xs =>
      have hlo : locOf w (.slice (some ⟨bl, off, none⟩) (x :: xs).length cap) z = some ⟨bl, off, c.size, z⟩ := by
        simp [locOf, hh]
      rw [hlo] at hσ
      refine ⟨?_, rfl, rfl, rfl, fun l hl => ?_⟩
      · have := VR.sla (ρ := ρ) (σ := σ) (b := b) (z := z) (o := 0) (n := (x :: xs).length) (c' := cap) hσ hcap
        simpa using this
      · rw [hσ] at hl
        obtain rfl := Option.some.inj hl
        refine ⟨c, t, p, hh, rfl, rfl, by rw [hcl, hlen]; exact hsz, fun τ => ?_⟩
        rw [hcl, hlen, hrow]
        have := rows_rel (ρ := ρ) (d := d) he τ (x :: xs) (x :: xs).length (Nat.le_refl _)
        rwa [List.take_of_length_le (Nat.le_refl _)] at this
/-- A law's contract, as its statement's walk. -/
theorem Ctr.law {f : Nat} {args : List CV} {h0 h1 : Tr Blk} {base n1 : Nat} {e : BE} {w : World} {σ : Mp} {args' : Array Value} (K : Ctr P ρ f args h0 base [] (.bool e) h1 n1) (he : e.den ρ = true) (ha : VRl ρ σ args args'.toList) (hH : HR ρ σ (curOf h0 base) w) (hN : ∀ b, base ≤ b → σ b = none) :
    Calls P f args' w fun e w' => e = .returned (.bool true) ∧ Below w.heap.size w w' := by
  refine ((K.run 0 σ w args' ha hH hN).calls (fun k d h => by cases h)).mono ?_
  rintro e' w' ⟨v, rfl, σ', h1, h2, h3, h4, h5⟩
  cases h2
  refine ⟨by rw [he], h4.os, h4.tape, h4.output, h4.size, fun k hk => h4.block k hk (fun b hb l hl => ?_)⟩
  rcases hb with hb | hb
  · cases hb
  · rw [hN b hb] at hl; cases hl
end
end Go.Proofs.Ythagjhadjpangaa.Cx

/- ARGUMENTS OF LAWS, OPENED BY THEIR TYPES: integers, bools, structs, arrays, and slices of rows of integers and bools (a table each); the memory in which these lie. -/
namespace Go.Proofs.Ythagjhadjpangaa.Cx
set_option linter.unusedSimpArgs false
set_option linter.unusedVariables false
open Go Go.RowKit Go.ChangeShapes Go.WideShapes Go.Deep Go.Proofs.Ythagjhadjpangaa
/-! ## What the cells of a type are -/
inductive CK where
  | int (k : IntKind)
  | bool
  | tab (ks : List (Option IntKind))
def flatCK : List CK → Option (List (Option IntKind))
  | [] => some []
  | .int k :: l => match flatCK l with | some m => some (some k :: m) | none => none
  | .bool :: l => match flatCK l with | some m => some (none :: m) | none => none
  | .tab _ :: _ => none
def ckFs (P : Program) (f : TypeId → Option (List CK)) : Nat → List Field → Option (List CK)
  | _, [] => some []
  | off, fd :: l => match f fd.type with
    | some ks => bif Nat.beq fd.offset off && Nat.beq (P.cellsOf fd.type) ks.length then (match ckFs P f (off + ks.length) l with | some m => some (ks ++ m) | none => none) else none
    | none => none
def repL {α : Type} : Nat → List α → List α
  | 0, _ => []
  | n + 1, l => repL n l ++ l
def ckOf (P : Program) : Nat → TypeId → Option (List CK)
  | 0, _ => none
  | d + 1, t => match P.underlying t with
    | some (.int k) => some [.int k]
    | some .bool => some [.bool]
    | some (.struct fs) => match ckFs P (ckOf P d) 0 fs.toList with
      | some ks => bif Nat.beq (P.cellsOf t) ks.length then some ks else none
      | none => none
    | some (.array n e) => match ckOf P d e with
      | some ks => bif Nat.beq (P.cellsOf e) ks.length && Nat.beq (P.cellsOf t) (n * ks.length) then some (repL n ks) else none
      | none => none
    | some (.slice e) => match ckOf P d e with
      | some ks => match flatCK ks with
        | some l => bif Nat.beq (P.cellsOf e) l.length && Nat.blt 0 l.length then some [.tab l] else none
        | none => none
      | none => none
    | _ => none
/-! ## Rows -/
/-- The cells of a row: integers and bools, by their places. -/
structure RowV where
  c : Nat → Int
  g : Nat → Bool
def RowV.zero : RowV := ⟨fun _ => 0, fun _ => false⟩
def enV (r : RowV) : List (Option IntKind) → Nat → List Value
  | [], _ => []
  | some k :: ks, j => .int k (r.c j) :: enV r ks (j + 1)
  | none :: ks, j => .bool (r.g j) :: enV r ks (j + 1)
def okV (ks : List (Option IntKind)) (r : RowV) : Prop := ∀ j k, ks[j]? = some (some k) → (Lit.int k (r.c j)).wf = true
theorem enV_length (r : RowV) : ∀ (ks : List (Option IntKind)) (j : Nat), (enV r ks j).length = ks.length
  | [], _ => rfl
  | some k :: ks, j => congrArg Nat.succ (enV_length r ks (j + 1))
  | none :: ks, j => congrArg Nat.succ (enV_length r ks (j + 1))
/-- The cells of an argument: such, and slices of rows. -/
structure RowW where
  c : Nat → Int
  g : Nat → Bool
  s : Nat → Value
  t : Nat → List RowV
def enW (r : RowW) : List CK → Nat → List Value
  | [], _ => []
  | .int k :: ks, j => .int k (r.c j) :: enW r ks (j + 1)
  | .bool :: ks, j => .bool (r.g j) :: enW r ks (j + 1)
  | .tab _ :: ks, j => r.s j :: enW r ks (j + 1)
/-- A slice of such rows. -/
def SlT (ks : List (Option IntKind)) (w : World) (v : Value) (xs : List RowV) : Prop := SlR (fun r => enV r ks 0) ks.length w v xs ∧ ∀ x ∈ xs, okV ks x
def cellW (w : World) : CK → Value → Prop
  | .int k, v => ∃ z, v = .int k z ∧ (Lit.int k z).wf = true
  | .bool, v => ∃ b, v = .bool b
  | .tab ks, v => ∃ xs, SlT ks w v xs
inductive Mt (w : World) : List CK → List Value → Prop
  | nil : Mt w [] []
  | cons {k : CK} {v : Value} {ks : List CK} {vs : List Value} (h : cellW w k v) (t : Mt w ks vs) : Mt w (k :: ks) (v :: vs)
theorem Mt.append {w : World} {a b : List CK} {x y : List Value} (h : Mt w a x) (h' : Mt w b y) : Mt w (a ++ b) (x ++ y) := by
  induction h with
  | nil => exact h'
  | cons h _ ih => exact .cons h ih
theorem Mt.length {w : World} {a : List CK} {x : List Value} (h : Mt w a x) : x.length = a.length := by
  induction h with
  | nil => rfl
  | cons h _ ih => simp [ih]
/-- What the cells' places hold. -/
noncomputable def rowW (w : World) (ks : List CK) (vs : List Value) : RowW :=
  ⟨fun j => match vs[j]? with | some (.int _ z) => z | _ => 0, fun j => match vs[j]? with | some (.bool b) => b | _ => false, fun j => vs.getD j (.bool false),
   fun j => match ks[j]? with | some (.tab l) => @dite _ (∃ xs, SlT l w (vs.getD j (.bool false)) xs) (Classical.propDecidable _) (fun h => Classical.choose h) (fun _ => []) | _ => []⟩
def okW (w : World) (ks : List CK) (r : RowW) : Prop := (∀ j k, ks[j]? = some (.int k) → (Lit.int k (r.c j)).wf = true) ∧ ∀ j l, ks[j]? = some (.tab l) → SlT l w (r.s j) (r.t j)
theorem Mt.get {w : World} {ks : List CK} {vs : List Value} (h : Mt w ks vs) : ∀ {j : Nat} {k : CK}, ks[j]? = some k → ∃ v, vs[j]? = some v ∧ cellW w k v := by
  induction h with
  | nil => intro j k h; simp at h
  | cons h _ ih =>
    intro j k hj
    cases j with
    | zero => simp at hj; subst hj; exact ⟨_, rfl, h⟩
    | succ j => simpa using ih (by simpa using hj)
theorem Mt.row {w : World} {ks : List CK} {vs : List Value} (h : Mt w ks vs) : vs = enW (rowW w ks vs) ks 0 ∧ okW w ks (rowW w ks vs) := by
  have key : ∀ (n : Nat) (pre post : List CK) (a b : List Value), ks = pre ++ post → vs = a ++ b → a.length = pre.length → b.length = post.length → post.length = n → b = enW (rowW w ks vs) post pre.length := by
    intro n
    induction n with
    | zero =>
      intro pre post a b h1 h2 h3 h4 h5
      cases post with
      | nil => cases b with
        | nil => rfl
        | cons x b => simp at h4
      | cons x l => simp at h5
    | succ n ih =>
      intro pre post a b h1 h2 h3 h4 h5
      cases post with
      | nil => simp at h5
      | cons k post =>
        cases b with
        | nil => simp at h4
        | cons v b =>
          have hk : ks[pre.length]? = some k := by rw [h1]; simp
          have hv : vs[pre.length]? = some v := by rw [h2, ← h3]; simp
          obtain ⟨v', hv', hc⟩ := h.get hk
          rw [hv] at hv'
          obtain rfl := Option.some.inj hv'
          have ih' := ih (pre ++ [k]) post (a ++ [v]) b (by simp [h1]) (by simp [h2]) (by simp [h3]) (by simpa using h4) (by simpa using h5)
          rw [List.length_append, List.length_singleton] at ih'
          have hd : vs.getD pre.length (.bool false) = v := by rw [List.getD_eq_getElem?_getD, hv]; rfl
          cases k with
          | int k =>
            obtain ⟨z, rfl, _⟩ := hc
            rw [enW, ← ih']
            congr 1
            simp [rowW, hv]
          | bool =>
            obtain ⟨z, rfl⟩ := hc
            rw [enW, ← ih']
            congr 1
            simp [rowW, hv]
          | tab l =>
            rw [enW, ← ih']
            congr 1
            exact hd.symm
  refine ⟨key ks.length [] ks [] vs rfl rfl rfl h.length rfl, fun j k hk => ?_, fun j l hl => ?_⟩
  · obtain ⟨v, hv, z, rfl, hz⟩ := h.get hk
    simpa [rowW, hv] using hz
  · obtain ⟨v, hv, xs, hx⟩ := h.get hl
    have hd : vs.getD j (.bool false) = v := by rw [List.getD_eq_getElem?_getD, hv]; rfl
    have hex : ∃ xs, SlT l w (vs.getD j (.bool false)) xs := ⟨xs, by rw [hd]; exact hx⟩
    have e : (rowW w ks vs).t j = Classical.choose hex := by
      simp only [rowW, hl]
      rw [dif_pos hex]
    rw [e]
    exact Classical.choose_spec hex
/-- Cells of a row, as a row. -/
theorem Mt.flat {w : World} {cks : List CK} {vs : List Value} (h : Mt w cks vs) : ∀ {ks : List (Option IntKind)}, flatCK cks = some ks → ∃ r : RowV, vs = enV r ks 0 ∧ okV ks r := by
  have key : ∀ {cks : List CK} {vs : List Value}, Mt w cks vs → ∀ {ks : List (Option IntKind)}, flatCK cks = some ks → ∀ (r : RowV) (j : Nat), ∃ r' : RowV, vs = enV r' ks j ∧ (∀ i k, ks[i]? = some (some k) → (Lit.int k (r'.c (j + i))).wf = true) ∧ ∀ i, i < j → r'.c i = r.c i ∧ r'.g i = r.g i := by
    intro cks vs h
    induction h with
    | nil =>
      intro ks hk r j
      simp only [flatCK] at hk
      cases hk
      exact ⟨r, rfl, fun i k h => by simp at h, fun i _ => ⟨rfl, rfl⟩⟩
    | @cons k v cks vs hc _ ih =>
      intro ks hk r j
      cases k with
      | int k =>
        simp only [flatCK] at hk
        split at hk
        · rename_i m hm
          cases hk
          obtain ⟨z, rfl, hz⟩ := hc
          obtain ⟨r', h1, h2, h3⟩ := ih hm ⟨fun i => if i = j then z else r.c i, r.g⟩ (j + 1)
          have hj := h3 j (by omega)
          simp only [if_true] at hj
          refine ⟨r', by rw [enV, hj.1, ← h1], fun i k' hk' => ?_, fun i hi => ?_⟩
          · cases i with
            | zero => simp at hk'; subst hk'; rw [Nat.add_zero, hj.1]; exact hz
            | succ i => have := h2 i k' (by simpa using hk'); rwa [show j + 1 + i = j + (i + 1) by omega] at this
          · have := h3 i (by omega)
            simp only [if_neg (show i ≠ j by omega)] at this
            exact this
        · cases hk
      | bool =>
        simp only [flatCK] at hk
        split at hk
        · rename_i m hm
          cases hk
          obtain ⟨z, rfl⟩ := hc
          obtain ⟨r', h1, h2, h3⟩ := ih hm ⟨r.c, fun i => if i = j then z else r.g i⟩ (j + 1)
          have hj := h3 j (by omega)
          simp only [if_true] at hj
          refine ⟨r', by rw [enV, hj.2, ← h1], fun i k' hk' => ?_, fun i hi => ?_⟩
          · cases i with
            | zero => simp at hk'
            | succ i => have := h2 i k' (by simpa using hk'); rwa [show j + 1 + i = j + (i + 1) by omega] at this
          · have := h3 i (by omega)
            simp only [if_neg (show i ≠ j by omega)] at this
            exact this
        · cases hk
      | tab l => simp [flatCK] at hk
  intro ks hk
  obtain ⟨r', h1, h2, _⟩ := key h hk RowV.zero 0
  exact ⟨r', h1, fun j k hj => by have := h2 j k hj; rwa [Nat.zero_add] at this⟩
section
variable {H : Type} {enc : TypeId × Value → H} {P : Program} {w : World} {base : Nat} {spare : Nat → Bool} {held : Bool}
theorem seg_add {α : Type} (cs : List α) (o a b : Nat) : (cs.drop o).take (a + b) = (cs.drop o).take a ++ (cs.drop (o + a)).take b := by
  rw [List.take_add, List.drop_drop]
theorem ckFs_ok {f : TypeId → Option (List CK)} {cs : List Value} (hf : ∀ t ks, f t = some ks → ∀ n vs y, DataW.trod enc P w base spare held n t vs = some y → Mt w ks vs) :
    ∀ (l : List Field) (off : Nat) (ks : List CK), ckFs P f off l = some ks → (∀ (i : Nat) (fd : Field), l[i]? = some fd → ∃ n y, DataW.trod enc P w base spare held n fd.type ((cs.drop fd.offset).take (P.cellsOf fd.type)) = some y) → Mt w ks ((cs.drop off).take ks.length)
  | [], off, ks, h, _ => by
    simp only [ckFs] at h
    cases h
    simpa using Mt.nil
  | fd :: l, off, ks, h, ht => by
    simp only [ckFs] at h
    split at h
    · rename_i k1 hk1
      cases hc : (Nat.beq fd.offset off && Nat.beq (P.cellsOf fd.type) k1.length) with
      | false => rw [hc, cond_false] at h; cases h
      | true =>
        rw [hc, cond_true] at h
        simp only [Bool.and_eq_true] at hc
        have e1 := Nat.eq_of_beq_eq_true hc.1
        have e2 := Nat.eq_of_beq_eq_true hc.2
        split at h
        · rename_i m hm
          cases h
          obtain ⟨n, y, hy⟩ := ht 0 fd rfl
          rw [e1, e2] at hy
          have h1 := hf _ _ hk1 _ _ _ hy
          have h2 := ckFs_ok hf l (off + k1.length) m hm fun i fd' hi => ht (i + 1) fd' (by simpa using hi)
          rw [List.length_append, seg_add]
          exact h1.append h2
        · cases h
    · cases h
theorem repL_length {α : Type} (l : List α) : ∀ n, (repL n l).length = n * l.length
  | 0 => by simp [repL]
  | n + 1 => by rw [repL, List.length_append, repL_length l n, Nat.succ_mul]
theorem repL_ok {cs : List Value} {ks : List CK} {z : Nat} (hz : ks.length = z) : ∀ (n : Nat), (∀ i, i < n → Mt w ks ((cs.drop (i * z)).take z)) → Mt w (repL n ks) (cs.take (n * z))
  | 0, _ => by simpa [repL] using Mt.nil
  | n + 1, h => by
    have ih := repL_ok hz n fun i hi => h i (by omega)
    rw [repL, Nat.succ_mul, List.take_add]
    exact ih.append (h n (by omega))
theorem ckOf_ok : ∀ (d : Nat) (t : TypeId) (ks : List CK), ckOf P d t = some ks → ∀ n cs y, DataW.trod enc P w base spare held n t cs = some y → Mt w ks cs
  | 0, _, _, h => by simp [ckOf] at h
  | d + 1, t, ks, h => by
    intro n cs y hy
    unfold ckOf at h
    split at h
    · rename_i k hk
      cases h
      obtain ⟨z, rfl, _, hw⟩ := DataW.trod_int hk hy
      exact .cons ⟨z, rfl, hw⟩ .nil
    · rename_i hk
      cases h
      obtain ⟨b, rfl, _⟩ := DataW.trod_bool hk hy
      exact .cons ⟨b, rfl⟩ .nil
    · rename_i fs hk
      split at h
      · rename_i l hl
        cases hc : Nat.beq (P.cellsOf t) l.length with
        | false => rw [hc, cond_false] at h; cases h
        | true =>
          rw [hc, cond_true] at h
          cases h
          have hlen := Nat.eq_of_beq_eq_true hc
          obtain ⟨xs, m, _, _, hcl, hxl, hg⟩ := DataW.trod_struct hk hy
          have := ckFs_ok (ckOf_ok d) fs.toList 0 _ hl (cs := cs) fun i fd hi => by
            have hi' : fs[i]? = some fd := by simpa using hi
            have hlt : i < xs.length := by rw [hxl]; exact (Array.getElem?_eq_some_iff.1 hi').1
            exact ⟨m, xs[i], by rw [hg i fd hi']; exact List.getElem?_eq_getElem hlt⟩
          rwa [List.drop_zero, List.take_of_length_le (by omega)] at this
      · cases h
    · rename_i m e hk
      split at h
      · rename_i l hl
        cases hc : (Nat.beq (P.cellsOf e) l.length && Nat.beq (P.cellsOf t) (m * l.length)) with
        | false => rw [hc, cond_false] at h; cases h
        | true =>
          rw [hc, cond_true] at h
          cases h
          simp only [Bool.and_eq_true] at hc
          have e1 := Nat.eq_of_beq_eq_true hc.1
          have e2 := Nat.eq_of_beq_eq_true hc.2
          obtain ⟨xs, q, _, _, hcl, hxl, hg⟩ := DataW.trod_array hk hy
          have := repL_ok (w := w) (cs := cs) (ks := l) rfl m fun i hi => by
            have h1 := hg i hi
            rw [e1, List.getElem?_eq_getElem (by omega)] at h1
            exact ckOf_ok d _ _ hl _ _ _ h1
          rwa [List.take_of_length_le (by omega)] at this
      · cases h
    · rename_i e hk
      split at h
      · rename_i ck hck
        split at h
        · rename_i l hl
          cases hc : (Nat.beq (P.cellsOf e) l.length && Nat.blt 0 l.length) with
          | false => rw [hc, cond_false] at h; cases h
          | true =>
            rw [hc, cond_true] at h
            cases h
            simp only [Bool.and_eq_true] at hc
            obtain ⟨v, xs, rfl, h1, h2⟩ := sl_open (en := fun r => enV r l 0) (ok := okV l) (z := l.length) (Nat.lt_of_succ_le (Nat.le_of_ble_eq_true hc.2)) (fun x => enV_length _ _ _) hk (Nat.eq_of_beq_eq_true hc.1)
              (fun n cs y _ hy => (ckOf_ok d _ _ hck _ _ _ hy).flat hl) hy
            exact .cons ⟨xs, h1, h2⟩ .nil
        · cases h
      · cases h
    · cases h
/-- An argument, opened. -/
theorem open_agg {t : TypeId} {r : Reach} {b0 : Nat} {v : Value} {d : DataW H} {p : List MemPlace} {dp : Nat} {ks : List CK} (hk : ckOf P dp t = some ks) (hs : (∃ fs, P.underlying t = some (.struct fs)) ∨ ∃ n e, P.underlying t = some (.array n e))
    (hval : Value.okWide P w r b0 t v) (h : DataW.Trod enc P w base spare held t v d p) : ∃ x : RowW, v = .agg (enW x ks 0).toArray ∧ okW w ks x := by
  obtain ⟨cs, rfl⟩ : ∃ cs, v = .agg cs := by
    rcases hs with ⟨fs, hs⟩ | ⟨n, e, hs⟩
    · obtain ⟨cs, h1, _⟩ := okWide_struct hs hval; exact ⟨cs, h1⟩
    · obtain ⟨cs, h1, _⟩ := okWide_arr hs hval; exact ⟨cs, h1⟩
  obtain ⟨fuel, hf⟩ := h
  have hm := ckOf_ok dp t ks hk _ _ _ hf
  obtain ⟨h1, h2⟩ := hm.row
  refine ⟨_, ?_, h2⟩
  rw [← h1]
  simp [Value.cells]
theorem open_slT {t : TypeId} {r : Reach} {b0 : Nat} {v : Value} {d : DataW H} {p : List MemPlace} {dp : Nat} {l : List (Option IntKind)} {e : TypeId} (hk : ckOf P dp t = some [.tab l]) (hs : P.underlying t = some (.slice e))
    (hval : Value.okWide P w r b0 t v) (h : DataW.Trod enc P w base spare held t v d p) : ∃ xs, SlT l w v xs := by
  obtain ⟨a, len, cap, rfl⟩ := okWide_slice hs hval
  obtain ⟨fuel, hf⟩ := h
  have hm := ckOf_ok dp t _ hk _ _ _ hf
  have e : (Value.slice a len cap).cells.toList = [Value.slice a len cap] := rfl
  rw [e] at hm
  cases hm with
  | cons h _ => exact h
end
/-! ## Slices as tables -/
def tabV (xs : List RowV) : Tab := ⟨xs.length, fun j i => (xs.getD i RowV.zero).c j, fun j i => (xs.getD i RowV.zero).g j⟩
theorem rowCs_sl {c c' : Nat → Nat → Int} {g g' : Nat → Nat → Bool} {i i' : Nat} (hc : ∀ j, c j i = c' j i') (hg : ∀ j, g j i = g' j i') : ∀ (ks : List (Option IntKind)) (j : Nat), rowCs c g i ks j = rowCs c' g' i' ks j
  | [], _ => rfl
  | some k :: ks, j => by rw [rowCs, rowCs, hc j, rowCs_sl hc hg ks]
  | none :: ks, j => by rw [rowCs, rowCs, hg j, rowCs_sl hc hg ks]
theorem enV_rel {ρ : Env} {σ : Mp} (r : RowV) : ∀ (ks : List (Option IntKind)) (j : Nat), VRl ρ σ (rowCs (fun j _ => r.c j) (fun j _ => r.g j) 0 ks j) (enV r ks j)
  | [], _ => .nil
  | some k :: ks, j => .cons (.int k (.x (r.c j))) (enV_rel r ks (j + 1))
  | none :: ks, j => .cons (.bool (.x (r.g j))) (enV_rel r ks (j + 1))
theorem ArgAt.rows_eq {ρ : Env} {w : World} {n z : Nat} {f g : Nat → List CV} {hf : ∀ j, (f j).length = z ∧ (f j).all CV.flat = true} {hg : ∀ j, (g j).length = z ∧ (g j).all CV.flat = true} {lo : Option Loc} (e : f = g) (h : ArgAt ρ w ⟨.arg n z f hf, z, true, none⟩ lo) : ArgAt ρ w ⟨.arg n z g hg, z, true, none⟩ lo := by
  subst e; exact h
structure SlV where
  v : Value
  ks : List (Option IntKind)
  xs : List RowV
noncomputable def sigV (w : World) (S : List SlV) : Mp := fun b => match S[b]? with | some s => locOf w s.v s.ks.length | none => none
def heapV : Nat → List SlV → List (Nat × Blk)
  | _, [] => []
  | i, s :: l => (i, tabB s.ks (tabV s.xs)) :: heapV (i + 1) l
theorem sigV_none {w : World} {S : List SlV} {b : Nat} (h : S.length ≤ b) : sigV w S b = none := by
  unfold sigV; rw [List.getElem?_eq_none h]
theorem SlT.both {ρ : Env} {w : World} {S : List SlV} {b : Nat} {s : SlV} (hb : S[b]? = some s) (h : SlT s.ks w s.v s.xs) : VR ρ (sigV w S) (.sla b s.ks.length 0 s.xs.length) s.v ∧ ArgAt ρ w (tabB s.ks (tabV s.xs)) (sigV w S b) := by
  obtain ⟨h1, h2⟩ := SlR.rel (ρ := ρ) (σ := sigV w S) (b := b) (ec := fun r => rowCs (fun j _ => r.c j) (fun j _ => r.g j) 0 s.ks 0) (d := RowV.zero) h.1 (fun x => enV_length _ _ _) (fun σ x => enV_rel x s.ks 0) (fun j => rowCs_ok _ _ _ _ _) (by unfold sigV; rw [hb])
  have e : (fun j => rowCs (fun j' _ => (s.xs.getD j RowV.zero).c j') (fun j' _ => (s.xs.getD j RowV.zero).g j') 0 s.ks 0) = fun i => rowCs (tabV s.xs).c (tabV s.xs).g i s.ks 0 := funext fun i => rowCs_sl (c := fun j' _ => (s.xs.getD i RowV.zero).c j') (g := fun j' _ => (s.xs.getD i RowV.zero).g j') (fun _ => rfl) (fun _ => rfl) _ _
  have h3 := ArgAt.rows_eq (hg := fun i => rowCs_ok (tabV s.xs).c (tabV s.xs).g i s.ks 0) e h2
  exact ⟨h1, h3⟩
theorem SlT.rel {ρ : Env} {w : World} {S : List SlV} (b : Nat) {s : SlV} (hb : S[b]? = some s) (h : SlT s.ks w s.v s.xs) : VR ρ (sigV w S) (.sla b s.ks.length 0 s.xs.length) s.v := (h.both hb).1
theorem SlT.len {ks : List (Option IntKind)} {w : World} {v : Value} {xs : List RowV} (h : SlT ks w v xs) : xs.length ≤ 9223372036854775807 := by
  obtain ⟨⟨a, cap, _, _, hl, _⟩, _⟩ := h
  exact hl
theorem SlT.wf {ks : List (Option IntKind)} {w : World} {v : Value} {xs : List RowV} (h : SlT ks w v xs) (j : Nat) (k : IntKind) (hk : ks[j]? = some (some k)) (h0 : (Lit.int k 0).wf = true) (i : Nat) : (Lit.int k ((tabV xs).c j i)).wf = true := by
  show (Lit.int k ((xs.getD i RowV.zero).c j)).wf = true
  by_cases hi : i < xs.length
  · rw [List.getD_eq_getElem?_getD, List.getElem?_eq_getElem hi]
    exact h.2 _ (List.getElem_mem hi) j k hk
  · rw [List.getD_eq_getElem?_getD, List.getElem?_eq_none (by omega)]
    exact h0
theorem heapV_get {ρ : Env} {w : World} : ∀ (l : List SlV) (i : Nat) (S : List SlV), (∀ j s, l[j]? = some s → S[i + j]? = some s) → (∀ s ∈ l, SlT s.ks w s.v s.xs) → ∀ b k, (mkH (heapV i l)).get b = some k → ArgAt ρ w k (sigV w S b)
  | [], i, S, _, _, b, k, h => by
    simp only [heapV, mkH] at h
    cases h
  | s :: l, i, S, hS, hT, b, k, h => by
    have h : ((mkH (heapV (i + 1) l)).set i (tabB s.ks (tabV s.xs))).get b = some k := h
    rw [Tr.get_set] at h
    split at h
    · rename_i hb
      cases h
      have := hS 0 s rfl
      rw [Nat.add_zero] at this
      rw [hb]
      exact ((hT s (by simp)).both this).2
    · exact heapV_get l (i + 1) S (fun j s' hj => by rw [show i + 1 + j = i + (j + 1) by omega]; exact hS (j + 1) s' (by simpa using hj)) (fun s' hs => hT s' (by simp [hs])) b k h
theorem argsV {ρ : Env} {w : World} (S : List SlV) (base : Nat) (hS : ∀ s ∈ S, SlT s.ks w s.v s.xs) (hL : Laid w) : HR ρ (sigV w S) (curOf (mkH (heapV 0 S)) base) w :=
  HR.ofArgs hL fun i k _ hk => heapV_get S 0 S (fun j s h => by rw [Nat.zero_add]; exact h) hS i k hk
end Go.Proofs.Ythagjhadjpangaa.Cx

/- DieMosts holds, for all inputs: by its automaton. Made by tools/cxlaws.py. -/
namespace Go.Proofs.Ythagjhadjpangaa
set_option linter.unusedVariables false
set_option linter.unusedSimpArgs false
open Go.ChangeShapes Go.WideShapes Go.ChangeAt Go.RowKit
open Cx (Env IE BE DT KnownB)
set_option maxRecDepth 100000 in
theorem dmosts_open0 {H : Type} {enc : TypeId × Value → H} {w : World} {base : Nat} {spare : Nat → Bool} {held : Bool} {r : Reach} {b0 : Nat} {vv : Value} {d : DataW H} {p : List MemPlace} (hval : Value.okWide Try.prog w r b0 26 vv) (h : DataW.Trod enc Try.prog w base spare held 26 vv d p) :
    ∃ y0 : Cx.RowW, vv = .agg #[.bool (y0.g 0), .int .i64 (y0.c 1), .int .i64 (y0.c 2), .int .i64 (y0.c 3), .int .i64 (y0.c 4), y0.s 5] ∧ Cx.okW w [.bool, .int .i64, .int .i64, .int .i64, .int .i64, .tab [some .i64, some .i64]] y0 :=
  Cx.open_agg (ks := [.bool, .int .i64, .int .i64, .int .i64, .int .i64, .tab [some .i64, some .i64]]) (dp := 12) (by kernel_rfl) (.inl ⟨_, Try.underlying26⟩) hval h
theorem dmosts_walk (y0 : Cx.RowW) (v1 : Value) (y1 : List Cx.RowV) (y2 : Int) (w : World) (g0 : Cx.okW w [.bool, .int .i64, .int .i64, .int .i64, .int .i64, .tab [some .i64, some .i64]] y0) (g1 : Cx.SlT [some .i64, some .i64, some .i64, some .i64] w v1 y1) (g2 : (Lit.int .i64 y2).wf = true) :
    Calls Try.prog 5 #[.agg #[.bool (y0.g 0), .int .i64 (y0.c 1), .int .i64 (y0.c 2), .int .i64 (y0.c 3), .int .i64 (y0.c 4), y0.s 5], v1, .int .i64 y2] w fun e w' => e = .returned (.bool true) ∧ Below w.heap.size w w' := by
  have hLw : Cx.Laid w := fun _ h => by cases h
  obtain ⟨n, v, hv, hp⟩ := Cx.dlm_run (y0.g 0) (y0.c 1) (y0.c 2) (y0.c 3) (y0.c 4) (Cx.tabV (y0.t 5)).n ((Cx.tabV (y0.t 5)).c 0) ((Cx.tabV (y0.t 5)).c 1) (Cx.tabV y1).n ((Cx.tabV y1).c 0) ((Cx.tabV y1).c 1) ((Cx.tabV y1).c 2) ((Cx.tabV y1).c 3) y2 (rng_i64 (g0.1 1 .i64 rfl)) (rng_i64 (g0.1 2 .i64 rfl)) (rng_i64 (g0.1 3 .i64 rfl)) (rng_i64 (g0.1 4 .i64 rfl)) (Cx.SlT.len (g0.2 5 _ rfl)) (fun i => rng_i64 (Cx.SlT.wf (g0.2 5 _ rfl) 0 .i64 rfl rfl i)) (fun i => rng_i64 (Cx.SlT.wf (g0.2 5 _ rfl) 1 .i64 rfl rfl i)) (Cx.SlT.len g1) (fun i => rng_i64 (Cx.SlT.wf g1 0 .i64 rfl rfl i)) (fun i => rng_i64 (Cx.SlT.wf g1 1 .i64 rfl rfl i)) (fun i => rng_i64 (Cx.SlT.wf g1 2 .i64 rfl rfl i)) (fun i => rng_i64 (Cx.SlT.wf g1 3 .i64 rfl rfl i)) (rng_i64 g2)
  have hS : ∀ s ∈ ([⟨(y0.s 5), [some .i64, some .i64], (y0.t 5)⟩, ⟨v1, [some .i64, some .i64, some .i64, some .i64], y1⟩] : List Cx.SlV), Cx.SlT s.ks w s.v s.xs := fun s hs => by
    simp only [List.mem_cons, List.not_mem_nil, or_false] at hs
    rcases hs with rfl | rfl
    · exact (g0.2 5 _ rfl)
    · exact g1
  exact Cx.Ctr.law (ρ := ⟨fun _ => 0, fun _ => false⟩) (σ := Cx.sigV w ([⟨(y0.s 5), [some .i64, some .i64], (y0.t 5)⟩, ⟨v1, [some .i64, some .i64, some .i64, some .i64], y1⟩] : List Cx.SlV)) (e := .x v) (Cx.dlmctr (y0.g 0) (y0.c 1) (y0.c 2) (y0.c 3) (y0.c 4) (Cx.tabV (y0.t 5)).n ((Cx.tabV (y0.t 5)).c 0) ((Cx.tabV (y0.t 5)).c 1) (Cx.tabV y1).n ((Cx.tabV y1).c 0) ((Cx.tabV y1).c 1) ((Cx.tabV y1).c 2) ((Cx.tabV y1).c 3) y2 Cx.dlmmem hv) hp (.cons (.agg (.cons (.bool (.x (y0.g 0))) (.cons (.int .i64 (.x (y0.c 1))) (.cons (.int .i64 (.x (y0.c 2))) (.cons (.int .i64 (.x (y0.c 3))) (.cons (.int .i64 (.x (y0.c 4))) (.cons (Cx.SlT.rel (S := ([⟨(y0.s 5), [some .i64, some .i64], (y0.t 5)⟩, ⟨v1, [some .i64, some .i64, some .i64, some .i64], y1⟩] : List Cx.SlV)) 0 rfl (g0.2 5 _ rfl)) .nil))))))) (.cons (Cx.SlT.rel (S := ([⟨(y0.s 5), [some .i64, some .i64], (y0.t 5)⟩, ⟨v1, [some .i64, some .i64, some .i64, some .i64], y1⟩] : List Cx.SlV)) 1 rfl g1) (.cons (.int .i64 (.x y2)) .nil))) (Cx.argsV ([⟨(y0.s 5), [some .i64, some .i64], (y0.t 5)⟩, ⟨v1, [some .i64, some .i64, some .i64, some .i64], y1⟩] : List Cx.SlV) _ hS hLw) (fun b hb => Cx.sigV_none hb)
theorem dmosts_own : ownKnob Try.prog.godebug = none := by kernel_rfl
theorem dmosts_laidOut : laidOutB Try.prog = true := by kernel_rfl
set_option maxRecDepth 100000 in
theorem dmosts_lifted (os : Os) (started : os.Started) (H : Type) (enc : TypeId × Value → H) :
    ReturnsInHanded {} Try.checked os 5 .any (Rows.dieMostsSpec.pre6 enc Try.prog Try.f5 Rows.dieMostsRow.domain false) (Rows.dieMostsSpec.post enc Try.prog Try.f5 false true false false) := by
  refine returnsInHanded_of_change (C := Try.checked) dmosts_own started (by kernel_rfl) Try.func5
    (ChangeSpec.witness6 (enc := enc) (C := Try.checked) false ⟨#[], #[.agg #[.bool false, .int .i64 0, .int .i64 0, .int .i64 0, .int .i64 0, .slice none 0 0], .slice none 0 0, .int .i64 0], []⟩ 8 (by kernel_rfl) (by kernel_rfl) (by kernel_rfl) (by kernel_rfl)) ?_
  intro W base args ds gs before hval0 hW hcnd _
  have hval : ∀ (j : Nat) t v, Try.f5.params[j]? = some t → args[j]? = some v → Value.okWide Try.prog W .any base t v := hval0
  have hW' := hW
  obtain ⟨p, q, hA0, hV, rfl, hfz, hnd⟩ := hW
  have hA : DataW.TrodAll enc Try.prog W 0 (fun _ => true) true Try.f5.params.toList args.toList ds p := hA0
  rw [Try.params5] at hA hval
  obtain ⟨v0, vs0, d0, ds0, p0, q0, hargs, rfl, rfl, h0, r0⟩ := trodAll_cons hA
  obtain ⟨v1, vs1, d1, ds1, p1, q1, rfl, rfl, rfl, h1, r1⟩ := trodAll_cons r0
  obtain ⟨v2, vs2, d2, ds2, p2, q2, rfl, rfl, rfl, h2, r2⟩ := trodAll_cons r1
  obtain ⟨rfl, rfl, rfl⟩ := trodAll_nil r2
  obtain rfl : args = #[v0, v1, v2] := by cases args; simp_all
  obtain ⟨rfl, rfl⟩ := trodVars_none hV
  have k0 := h0
  have lt0 : ∀ x ∈ p0, x.block < W.heap.size := by obtain ⟨m, hm⟩ := k0; exact DataW.trod_lt m _ _ _ hm
  have k1 := h1
  have lt1 : ∀ x ∈ p1, x.block < W.heap.size := by obtain ⟨m, hm⟩ := k1; exact DataW.trod_lt m _ _ _ hm
  have k2 := h2
  have lt2 : ∀ x ∈ p2, x.block < W.heap.size := by obtain ⟨m, hm⟩ := k2; exact DataW.trod_lt m _ _ _ hm
  obtain ⟨y0, rfl, g0⟩ := dmosts_open0 (hval 0 26 v0 rfl rfl) h0
  obtain ⟨y1, g1⟩ := Cx.open_slT (l := [some .i64, some .i64, some .i64, some .i64]) (dp := 12) (by kernel_rfl) Try.underlying27 (hval 1 27 v1 rfl rfl) h1
  obtain ⟨y2, rfl, rfl, rfl, g2⟩ := open_int Try.underlying3 (hval 2 3 v2 rfl rfl) h2
  clear hA0 hval0
  refine (dmosts_walk y0 v1 y1 y2 W g0 g1 g2).mono fun e W' ⟨he, bel⟩ => ?_
  subst he
  exact ⟨_, rfl, _, _, _, [], _, [], hW', trodAll_mk1 (shut_bool Try.underlying4 _), (trodAll_cons_mk (Below.trod dmosts_laidOut (by kernel_rfl) (of_decide_eq_true (by kernel_rfl)) k0 bel lt0) (trodAll_cons_mk (Below.trod dmosts_laidOut (by kernel_rfl) (of_decide_eq_true (by kernel_rfl)) k1 bel lt1) (trodAll_cons_mk (Below.trod dmosts_laidOut (by kernel_rfl) (of_decide_eq_true (by kernel_rfl)) k2 bel lt2) trodAll_mk0))), rfl, bel.frame _, fun h => by cases h⟩
theorem dmosts_over : Rows.dieMostsRow.holds Try.pinned (OpenSpec.ofChange Rows.dieMostsSpec) :=
  OpenClaim.holds_of_wide 5 Try.f5 rfl rfl rfl rfl rfl rfl rfl ⟨rfl, rfl, rfl, rfl, rfl⟩ rfl rfl rfl rfl rfl (by kernel_rfl) Try.func5 (by kernel_rfl)
    (of_decide_eq_true (by kernel_rfl)) (by unfold Func.isWrapper; rw [if_neg (of_decide_eq_false (by kernel_rfl))]; exact ⟨rfl, rfl⟩)
    (fun os started H enc _ => dmosts_lifted os started H enc)
theorem dmosts_proved : Rows.DieMostsSaid := dmosts_over
#print axioms dmosts_proved
end Go.Proofs.Ythagjhadjpangaa
