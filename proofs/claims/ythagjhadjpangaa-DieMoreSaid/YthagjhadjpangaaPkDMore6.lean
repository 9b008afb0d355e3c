/- acme/acmeref07.Reach as an automaton. Made by tools/cxauto.py. -/
import Derived.Test.YthagjhadjpangaaPkDMore5

namespace Go.Proofs.Ythagjhadjpangaa.Cx
set_option linter.unusedVariables false
set_option linter.unusedSimpArgs false
set_option maxRecDepth 100000
open Go Go.Proofs Go.RowKit
noncomputable abbrev rdrCode : Code := funcCode Try.f28
inductive rdrN where
  | n0 (p0 : Int)
abbrev rdrR := Int
noncomputable def rdrD0 (a0 : Bool) (a1 a2 a3 a4 : Int) (a5 : Nat) (a6 a7 : Nat → Int) (a8 : Nat) (a9 a10 a11 a12 : Nat → Int) (a13 : Int) : DD (Lf rdrN rdrR) :=
 .leaf (.next (.n0 a13) [2])

noncomputable def rdrD (a0 : Bool) (a1 a2 a3 a4 : Int) (a5 : Nat) (a6 a7 : Nat → Int) (a8 : Nat) (a9 a10 a11 a12 : Nat → Int) (a13 : Int) : rdrN → DD (Lf rdrN rdrR)
 | .n0 p0 =>
 let z0 := decide (0 + a8 ≤ a8)
 let z1 := fun i => [CV.int IntKind.i64 (IE.x (a9 (0 + i))), CV.int IntKind.i64 (IE.x (a10 (0 + i))), CV.int IntKind.i64 (IE.x (a11 (0 + i))), CV.int IntKind.i64 (IE.x (a12 (0 + i)))]
 let z2 := ShapeOk [some IntKind.i64, some IntKind.i64, some IntKind.i64, some IntKind.i64] (tabOf a8 z1) z1
 let z3 := fun i => a9 (0 + i)
 let z4 := fun i => a10 (0 + i)
 let z5 := fun i => a11 (0 + i)
 let z6 := fun i => a12 (0 + i)
 let z7 := rdaA a8 z3 z4 z5 z6
 let z8 := fun i => [CV.int IntKind.i64 (IE.x (a6 (0 + i))), CV.int IntKind.i64 (IE.x (a7 (0 + i)))]
 let z9 := Ar.run .add .i64 p0 1
 let z10 := rdtA a0 a1 a2 a3 a4 a5 (fun i => a6 (0 + i)) (fun i => a7 (0 + i)) a8 z3 z4 z5 z6 a13 z9
 let z11 := AF.val z10
 .must z0
   (.must z2
   (.must (AF.fin z7)
   (.ask (Cm.run .lss p0 (AF.val z7))
   (.must (decide (0 + a5 ≤ a5))
   (.must (ShapeOk [some IntKind.i64, some IntKind.i64] (tabOf a5 z8) z8)
   (.must z0
   (.must z2
   (.must (AF.fin z10)
   (.ask (Cm.run .leq (Prod.fst z11) (Prod.snd z11))
   (.leaf (.next (.n0 z9) [2]))
   (.leaf (.done p0 []))))))))
   (.leaf (.done p0 [])))))

noncomputable def rdrA (a0 : Bool) (a1 a2 a3 a4 : Int) (a5 : Nat) (a6 a7 : Nat → Int) (a8 : Nat) (a9 a10 a11 a12 : Nat → Int) (a13 : Int) : AF rdrN rdrR where
  code := rdrCode
  base := 2
  nt := 24
  m := 400
  un := []
  W := []
  h0 := [(0, ⟨.arg a5 2 (fun i => [.int .i64 (.x (a6 i)), .int .i64 (.x (a7 i))]) (fun _ => ⟨rfl, rfl⟩), 2, true, none⟩), (1, ⟨.arg a8 4 (fun i => [.int .i64 (.x (a9 i)), .int .i64 (.x (a10 i)), .int .i64 (.x (a11 i)), .int .i64 (.x (a12 i))]) (fun _ => ⟨rfl, rfl⟩), 4, true, none⟩)]
  args := [.agg [.bool (.x a0), .int .i64 (.x a1), .int .i64 (.x a2), .int .i64 (.x a3), .int .i64 (.x a4), .sla 0 2 0 a5], .sla 1 4 0 a8, .int .i64 (.x a13)]
  res := (Try.f28).results.toList
  path := fun a => match a with
   | .n0 p0 => [1, 1, 0, 0]
  pd := fun a => match a with
   | .n0 p0 => ⟨[(1, .sla 1 4 0 a8), (2, .int .i64 (.x a13)), (3, .ptr (some (2, 0))), (7, .int .i64 (.x p0))], [(2, ⟨.lit [.bool (.x a0), .int .i64 (.x a1), .int .i64 (.x a2), .int .i64 (.x a3), .int .i64 (.x a4), .sla 0 2 0 a5], 0, true, none⟩)], 3, []⟩
  D0 := rdrD0 a0 a1 a2 a3 a4 a5 a6 a7 a8 a9 a10 a11 a12 a13
  D := rdrD a0 a1 a2 a3 a4 a5 a6 a7 a8 a9 a10 a11 a12 a13
  rc := (fun v => .int .i64 (.x v))
  rh := (fun v => [])
  rn := (fun v => 2)
  rx := (fun v => [])
  rgo := (fun _ => none)
instance : Inhabited rdrR := ⟨0⟩
end Go.Proofs.Ythagjhadjpangaa.Cx

/- acme/die.Plan as an automaton. Made by tools/cxauto.py. -/
namespace Go.Proofs.Ythagjhadjpangaa.Cx
set_option linter.unusedVariables false
set_option linter.unusedSimpArgs false
set_option maxRecDepth 100000
open Go Go.Proofs Go.RowKit
noncomputable abbrev dplCode : Code := funcCode Try.f26
noncomputable abbrev dpls0Code : Code := funcCode Try.f92
inductive dpls0N where
  | n0
  | n1 (q0 : Int) (q1 : Nat) (q2 q3 : Nat → Int)
inductive dpls0R where
  | r0
  | r1 (q0 : Nat) (q1 : Int) (q2 q3 : Nat → Int)
noncomputable def dpls0D0 (a0 : Bool) (a1 a2 a3 a4 : Int) (a5 : Nat) (a6 a7 : Nat → Int) (a8 : Nat) (a9 a10 a11 a12 : Nat → Int) (p0 : Bool) (p1 p2 p3 p4 : Int) (p5 p6 : Nat) (p7 : Int) : DD (Lf dpls0N dpls0R) :=
 .leaf (.next (.n0) [])

noncomputable def dpls0D (a0 : Bool) (a1 a2 a3 a4 : Int) (a5 : Nat) (a6 a7 : Nat → Int) (a8 : Nat) (a9 a10 a11 a12 : Nat → Int) (p0 : Bool) (p1 p2 p3 p4 : Int) (p5 p6 : Nat) (p7 : Int) : dpls0N → DD (Lf dpls0N dpls0R)
 | .n0 =>
 let z0 := fun i => [CV.int IntKind.i64 (IE.x (a6 (0 + i))), CV.int IntKind.i64 (IE.x (a7 (0 + i)))]
 let z1 := fun i => [CV.int IntKind.i64 (IE.x (a9 (0 + i))), CV.int IntKind.i64 (IE.x (a10 (0 + i))), CV.int IntKind.i64 (IE.x (a11 (0 + i))), CV.int IntKind.i64 (IE.x (a12 (0 + i)))]
 let z2 := drcA p0 p1 p2 p3 p4 p5 (fun i => a6 (0 + i)) (fun i => a7 (0 + i)) p6 (fun i => a9 (0 + i)) (fun i => a10 (0 + i)) (fun i => a11 (0 + i)) (fun i => a12 (0 + i)) p7 (-10000000000) 20000000000 0 p7
 let z3 := AF.val z2
 let z4 := Prod.snd (Prod.snd z3)
 .ask (Cm.run .lss 0 p7)
   (.must (decide (0 + p5 ≤ a5))
   (.must (ShapeOk [some IntKind.i64, some IntKind.i64] (tabOf p5 z0) z0)
   (.must (decide (0 + p6 ≤ a8))
   (.must (ShapeOk [some IntKind.i64, some IntKind.i64, some IntKind.i64, some IntKind.i64] (tabOf p6 z1) z1)
   (.must (AF.fin z2)
   (.ask (Cm.run .eql z4 0)
   (.leaf (.done (.r0) []))
   (.leaf (.next (.n1 z4 1 (fun i => 0) (fun i => Prod.fst z3)) [11]))))))))
   (.leaf (.done (.r0) []))
 | .n1 q0 q1 q2 q3 =>
 let z0 := fun i => [CV.int IntKind.i64 (IE.x (a6 (0 + i))), CV.int IntKind.i64 (IE.x (a7 (0 + i)))]
 let z1 := fun i => [CV.int IntKind.i64 (IE.x (a9 (0 + i))), CV.int IntKind.i64 (IE.x (a10 (0 + i))), CV.int IntKind.i64 (IE.x (a11 (0 + i))), CV.int IntKind.i64 (IE.x (a12 (0 + i)))]
 let z2 := drcA p0 p1 p2 p3 p4 p5 (fun i => a6 (0 + i)) (fun i => a7 (0 + i)) p6 (fun i => a9 (0 + i)) (fun i => a10 (0 + i)) (fun i => a11 (0 + i)) (fun i => a12 (0 + i)) p7 (-10000000000) 20000000000 q0 p7
 let z3 := AF.val z2
 let z4 := Prod.snd (Prod.snd z3)
 .ask (Cm.run .lss q0 p7)
   (.must (decide (0 + p5 ≤ a5))
   (.must (ShapeOk [some IntKind.i64, some IntKind.i64] (tabOf p5 z0) z0)
   (.must (decide (0 + p6 ≤ a8))
   (.must (ShapeOk [some IntKind.i64, some IntKind.i64, some IntKind.i64, some IntKind.i64] (tabOf p6 z1) z1)
   (.must (AF.fin z2)
   (.ask (Cm.run .eql z4 q0)
   (.leaf (.done (.r1 q1 q0 (fun i => q2 i) (fun i => q3 i)) [7]))
   (.must (decide (0 + q1 ≤ q1))
   (.must (decide (q1 + 1 ≤ 10000))
   (.leaf (.next (.n1 z4 (q1 + 1) (fun i => bif Nat.blt i q1 then q2 (0 + i) else q0) (fun i => bif Nat.blt i q1 then q3 (0 + i) else Prod.fst z3)) [12]))))))))))
   (.leaf (.done (.r1 q1 q0 (fun i => q2 i) (fun i => q3 i)) [7]))

noncomputable def dpls0A (a0 : Bool) (a1 a2 a3 a4 : Int) (a5 : Nat) (a6 a7 : Nat → Int) (a8 : Nat) (a9 a10 a11 a12 : Nat → Int) (p0 : Bool) (p1 p2 p3 p4 : Int) (p5 p6 : Nat) (p7 : Int) : AF dpls0N dpls0R where
  code := dpls0Code
  base := 7
  nt := 33
  m := 400
  un := []
  W := [3, 4, 6]
  h0 := ((6, recB (mkT [(6, .ptr (some (2, 0))), (8, .ptr (some (3, 0))), (9, .ptr (some (4, 0))), (22, .fn (.func 92) [] [.ptr (some (5, 0))])]) 35 (rgP (codeAt dplCode [1, 1, 1, 1, 1, 0, 1, 0])) (rgA (codeAt dplCode [1, 1, 1, 1, 1, 0, 1, 0])) (rgB (codeAt dplCode [1, 1, 1, 1, 1, 0, 1, 0]))) :: (([(2, ⟨.lit [.bool (.x p0), .int .i64 (.x p1), .int .i64 (.x p2), .int .i64 (.x p3), .int .i64 (.x p4), .sla 0 2 0 p5, .sla 1 4 0 p6, .int .i64 (.x p7)], 0, true, none⟩), (3, ⟨.lit [.slc none 0 0], 0, true, none⟩), (4, ⟨.lit [.int .i64 (.x 0)], 0, true, none⟩), (5, ⟨.lit [.bool (.x p0), .int .i64 (.x p1), .int .i64 (.x p2), .int .i64 (.x p3), .int .i64 (.x p4), .sla 0 2 0 p5, .sla 1 4 0 p6, .int .i64 (.x p7)], 0, true, none⟩)] ++ []) ++ [(0, ⟨.arg a5 2 (fun i => [.int .i64 (.x (a6 i)), .int .i64 (.x (a7 i))]) (fun _ => ⟨rfl, rfl⟩), 2, true, none⟩), (1, ⟨.arg a8 4 (fun i => [.int .i64 (.x (a9 i)), .int .i64 (.x (a10 i)), .int .i64 (.x (a11 i)), .int .i64 (.x (a12 i))]) (fun _ => ⟨rfl, rfl⟩), 4, true, none⟩)]))
  args := [.yld 6, .ptr (some (5, 0))]
  res := (Try.f92).results.toList
  path := fun a => match a with
   | .n0 => [1, 0]
   | .n1 q0 q1 q2 q3 => [1, 0]
  pd := fun a => match a with
   | .n0 => ⟨[(0, .yld 6), (1, .ptr (some (5, 0))), (3, .int .i64 (.x 0))], [(3, ⟨.lit [.slc none 0 0], 0, true, none⟩), (4, ⟨.lit [.int .i64 (.x 0)], 0, true, none⟩)], 7, [(6, recS (mkT [(6, .ptr (some (2, 0))), (8, .ptr (some (3, 0))), (9, .ptr (some (4, 0))), (22, .fn (.func 92) [] [.ptr (some (5, 0))])]) 35 (rgP (codeAt dplCode [1, 1, 1, 1, 1, 0, 1, 0])) (rgA (codeAt dplCode [1, 1, 1, 1, 1, 0, 1, 0])) (rgB (codeAt dplCode [1, 1, 1, 1, 1, 0, 1, 0])) (.ready) (.none))]⟩
   | .n1 q0 q1 q2 q3 => ⟨[(0, .yld 6), (1, .ptr (some (5, 0))), (3, .int .i64 (.x q0))], [(3, ⟨.lit [.slx 7 2 0 q1 q1], 0, true, none⟩), (4, ⟨.lit [.int .i64 (.x q0)], 0, true, none⟩), (7, ⟨.rows q1 2 (fun i => [.int .i64 (.x (q2 i)), .int .i64 (.x (q3 i))]) (fun _ => ⟨rfl, rfl⟩), 2, true, none⟩)], 8, [(6, recS (mkT [(6, .ptr (some (2, 0))), (8, .ptr (some (3, 0))), (9, .ptr (some (4, 0))), (22, .fn (.func 92) [] [.ptr (some (5, 0))])]) 35 (rgP (codeAt dplCode [1, 1, 1, 1, 1, 0, 1, 0])) (rgA (codeAt dplCode [1, 1, 1, 1, 1, 0, 1, 0])) (rgB (codeAt dplCode [1, 1, 1, 1, 1, 0, 1, 0])) (.ready) (.none))]⟩
  D0 := dpls0D0 a0 a1 a2 a3 a4 a5 a6 a7 a8 a9 a10 a11 a12 p0 p1 p2 p3 p4 p5 p6 p7
  D := dpls0D a0 a1 a2 a3 a4 a5 a6 a7 a8 a9 a10 a11 a12 p0 p1 p2 p3 p4 p5 p6 p7
  rc := (fun v => match v with
 | .r0 => .tup []
 | .r1 q0 q1 q2 q3 => .tup [])
  rh := (fun v => match v with
 | .r0 => [(3, ⟨.lit [.slc none 0 0], 0, true, none⟩), (4, ⟨.lit [.int .i64 (.x 0)], 0, true, none⟩)]
 | .r1 q0 q1 q2 q3 => [(3, ⟨.lit [.slx 7 2 0 q0 q0], 0, true, none⟩), (4, ⟨.lit [.int .i64 (.x q1)], 0, true, none⟩), (7, ⟨.rows q0 2 (fun i => [.int .i64 (.x (q2 i)), .int .i64 (.x (q3 i))]) (fun _ => ⟨rfl, rfl⟩), 2, true, none⟩)])
  rn := (fun v => match v with
 | .r0 => 7
 | .r1 q0 q1 q2 q3 => 8)
  rx := (fun v => match v with
 | .r0 => [(6, recS (mkT [(6, .ptr (some (2, 0))), (8, .ptr (some (3, 0))), (9, .ptr (some (4, 0))), (22, .fn (.func 92) [] [.ptr (some (5, 0))])]) 35 (rgP (codeAt dplCode [1, 1, 1, 1, 1, 0, 1, 0])) (rgA (codeAt dplCode [1, 1, 1, 1, 1, 0, 1, 0])) (rgB (codeAt dplCode [1, 1, 1, 1, 1, 0, 1, 0])) (.ready) (.none))]
 | .r1 q0 q1 q2 q3 => [(6, recS (mkT [(6, .ptr (some (2, 0))), (8, .ptr (some (3, 0))), (9, .ptr (some (4, 0))), (22, .fn (.func 92) [] [.ptr (some (5, 0))])]) 35 (rgP (codeAt dplCode [1, 1, 1, 1, 1, 0, 1, 0])) (rgA (codeAt dplCode [1, 1, 1, 1, 1, 0, 1, 0])) (rgB (codeAt dplCode [1, 1, 1, 1, 1, 0, 1, 0])) (.ready) (.none))])
  rgo := (fun _ => none)
theorem dpls0start (a0 : Bool) (a1 a2 a3 a4 : Int) (a5 : Nat) (a6 a7 : Nat → Int) (a8 : Nat) (a9 a10 a11 a12 : Nat → Int) (p0 : Bool) (p1 p2 p3 p4 : Int) (p5 p6 : Nat) (p7 : Int) : AF.edgeOk (dpls0A a0 a1 a2 a3 a4 a5 a6 a7 a8 a9 a10 a11 a12 p0 p1 p2 p3 p4 p5 p6 p7) (ctxOf Try.prog memo0) (dpls0D0 a0 a1 a2 a3 a4 a5 a6 a7 a8 a9 a10 a11 a12 p0 p1 p2 p3 p4 p5 p6 p7) (AF.run0 (dpls0A a0 a1 a2 a3 a4 a5 a6 a7 a8 a9 a10 a11 a12 p0 p1 p2 p3 p4 p5 p6 p7) (ctxOf Try.prog (memoS 67 drcP drcF drcW drcH 2 (memoP 63 dshP dshF dshW dshH 2 memo0)))) := by unfold AF.edgeOk; kernel_rfl
theorem dpls0node0 (a0 : Bool) (a1 a2 a3 a4 : Int) (a5 : Nat) (a6 a7 : Nat → Int) (a8 : Nat) (a9 a10 a11 a12 : Nat → Int) (p0 : Bool) (p1 p2 p3 p4 : Int) (p5 p6 : Nat) (p7 : Int) : AF.edgeOk (dpls0A a0 a1 a2 a3 a4 a5 a6 a7 a8 a9 a10 a11 a12 p0 p1 p2 p3 p4 p5 p6 p7) (ctxOf Try.prog memo0) (dpls0D a0 a1 a2 a3 a4 a5 a6 a7 a8 a9 a10 a11 a12 p0 p1 p2 p3 p4 p5 p6 p7 (.n0)) (AF.runN (dpls0A a0 a1 a2 a3 a4 a5 a6 a7 a8 a9 a10 a11 a12 p0 p1 p2 p3 p4 p5 p6 p7) (ctxOf Try.prog (memoS 67 drcP drcF drcW drcH 2 (memoP 63 dshP dshF dshW dshH 2 memo0))) (.n0)) := by unfold AF.edgeOk; kernel_rfl
theorem dpls0node1 (a0 : Bool) (a1 a2 a3 a4 : Int) (a5 : Nat) (a6 a7 : Nat → Int) (a8 : Nat) (a9 a10 a11 a12 : Nat → Int) (p0 : Bool) (p1 p2 p3 p4 : Int) (p5 p6 : Nat) (p7 q0 : Int) (q1 : Nat) (q2 q3 : Nat → Int) : AF.edgeOk (dpls0A a0 a1 a2 a3 a4 a5 a6 a7 a8 a9 a10 a11 a12 p0 p1 p2 p3 p4 p5 p6 p7) (ctxOf Try.prog memo0) (dpls0D a0 a1 a2 a3 a4 a5 a6 a7 a8 a9 a10 a11 a12 p0 p1 p2 p3 p4 p5 p6 p7 (.n1 q0 q1 q2 q3)) (AF.runN (dpls0A a0 a1 a2 a3 a4 a5 a6 a7 a8 a9 a10 a11 a12 p0 p1 p2 p3 p4 p5 p6 p7) (ctxOf Try.prog (memoS 67 drcP drcF drcW drcH 2 (memoP 63 dshP dshF dshW dshH 2 memo0))) (.n1 q0 q1 q2 q3)) := by unfold AF.edgeOk; kernel_rfl
theorem dpls0ok (a0 : Bool) (a1 a2 a3 a4 : Int) (a5 : Nat) (a6 a7 : Nat → Int) (a8 : Nat) (a9 a10 a11 a12 : Nat → Int) (p0 : Bool) (p1 p2 p3 p4 : Int) (p5 p6 : Nat) (p7 : Int) : (dpls0A a0 a1 a2 a3 a4 a5 a6 a7 a8 a9 a10 a11 a12 p0 p1 p2 p3 p4 p5 p6 p7).Ok Try.prog (ctxOf Try.prog (memoS 67 drcP drcF drcW drcH 2 (memoP 63 dshP dshF dshW dshH 2 memo0))) where
  regs := by kernel_rfl
  h0 := by kernel_rfl
  start := dpls0start a0 a1 a2 a3 a4 a5 a6 a7 a8 a9 a10 a11 a12 p0 p1 p2 p3 p4 p5 p6 p7
  node := fun a _ => match a with
   | .n0 => dpls0node0 a0 a1 a2 a3 a4 a5 a6 a7 a8 a9 a10 a11 a12 p0 p1 p2 p3 p4 p5 p6 p7
   | .n1 q0 q1 q2 q3 => dpls0node1 a0 a1 a2 a3 a4 a5 a6 a7 a8 a9 a10 a11 a12 p0 p1 p2 p3 p4 p5 p6 p7 q0 q1 q2 q3
  pd := fun a => match a with
   | .n0 => ⟨(fa_cons rfl (fa_cons rfl (fa_cons rfl fa_nil))), (fa_cons ⟨.inr (memW rfl), rfl, rfl⟩ (fa_cons ⟨.inr (memW rfl), rfl, rfl⟩ fa_nil)), (fa_cons ⟨memW rfl, RecOk.of rfl⟩ fa_nil), rfl⟩
   | .n1 q0 q1 q2 q3 => ⟨(fa_cons rfl (fa_cons rfl (fa_cons rfl fa_nil))), (fa_cons ⟨.inr (memW rfl), rfl, rfl⟩ (fa_cons ⟨.inr (memW rfl), rfl, rfl⟩ (fa_cons ⟨.inl (Nat.le_of_ble_eq_true rfl), (fun _ => rfl), rfl⟩ fa_nil))), (fa_cons ⟨memW rfl, RecOk.of rfl⟩ fa_nil), rfl⟩
  le := fun a => match a with
   | .n0 => Nat.le_of_ble_eq_true rfl
   | .n1 q0 q1 q2 q3 => Nat.le_of_ble_eq_true rfl
  rd := fun v => match v with
   | .r0 => ⟨⟨fa_nil, (fa_cons ⟨.inr (memW rfl), rfl, rfl⟩ (fa_cons ⟨.inr (memW rfl), rfl, rfl⟩ fa_nil)), (fa_cons ⟨memW rfl, RecOk.of rfl⟩ fa_nil), rfl⟩, rfl⟩
   | .r1 q0 q1 q2 q3 => ⟨⟨fa_nil, (fa_cons ⟨.inr (memW rfl), rfl, rfl⟩ (fa_cons ⟨.inr (memW rfl), rfl, rfl⟩ (fa_cons ⟨.inl (Nat.le_of_ble_eq_true rfl), (fun _ => rfl), rfl⟩ fa_nil))), (fa_cons ⟨memW rfl, RecOk.of rfl⟩ fa_nil), rfl⟩, rfl⟩
  wb := rfl
theorem dpls0hR {ρ : Env} (a0 : Bool) (a1 a2 a3 a4 : Int) (a5 : Nat) (a6 a7 : Nat → Int) (a8 : Nat) (a9 a10 a11 a12 : Nat → Int) (p0 : Bool) (p1 p2 p3 p4 : Int) (p5 p6 : Nat) (p7 : Int) (hM : MemoOk Try.prog (ctxOf Try.prog (memoS 67 drcP drcF drcW drcH 2 (memoP 63 dshP dshF dshW dshH 2 memo0))) ρ) : ∀ X a q n D, FxOk ρ X → X.base = (dpls0A a0 a1 a2 a3 a4 a5 a6 a7 a8 a9 a10 a11 a12 p0 p1 p2 p3 p4 p5 p6 p7).base → X.nt = (dpls0A a0 a1 a2 a3 a4 a5 a6 a7 a8 a9 a10 a11 a12 p0 p1 p2 p3 p4 p5 p6 p7).nt → X.W = (dpls0A a0 a1 a2 a3 a4 a5 a6 a7 a8 a9 a10 a11 a12 p0 p1 p2 p3 p4 p5 p6 p7).W → (dpls0A a0 a1 a2 a3 a4 a5 a6 a7 a8 a9 a10 a11 a12 p0 p1 p2 p3 p4 p5 p6 p7).rgo a = some q → q n = some D → (dpls0A a0 a1 a2 a3 a4 a5 a6 a7 a8 a9 a10 a11 a12 p0 p1 p2 p3 p4 p5 p6 p7).RangeOk Try.prog ρ X a D := AF.noRange rfl
inductive dplN where
  | n0 (p0 : Bool) (p1 p2 p3 p4 : Int) (p5 p6 : Nat) (p7 : Int)
inductive dplR where
  | r0 (p0 : Int)
  | r1 (p0 : Nat) (p1 p2 : Nat → Int)
noncomputable def dplD0 (a0 : Bool) (a1 a2 a3 a4 : Int) (a5 : Nat) (a6 a7 : Nat → Int) (a8 : Nat) (a9 a10 a11 a12 : Nat → Int) : DD (Lf dplN dplR) :=
 let z0 := fun i => [CV.int IntKind.i64 (IE.x (a6 (0 + i))), CV.int IntKind.i64 (IE.x (a7 (0 + i)))]
 let z1 := fun i => [CV.int IntKind.i64 (IE.x (a9 (0 + i))), CV.int IntKind.i64 (IE.x (a10 (0 + i))), CV.int IntKind.i64 (IE.x (a11 (0 + i))), CV.int IntKind.i64 (IE.x (a12 (0 + i)))]
 let z2 := dshA a0 a1 a2 a3 a4 a5 (fun i => a6 (0 + i)) (fun i => a7 (0 + i)) a8 (fun i => a9 (0 + i)) (fun i => a10 (0 + i)) (fun i => a11 (0 + i)) (fun i => a12 (0 + i))
 let z3 := AF.val z2
 let z4 := dshw8 z3
 .must (decide (0 + a5 ≤ a5))
   (.must (ShapeOk [some IntKind.i64, some IntKind.i64] (tabOf a5 z0) z0)
   (.must (decide (0 + a8 ≤ a8))
   (.must (ShapeOk [some IntKind.i64, some IntKind.i64, some IntKind.i64, some IntKind.i64] (tabOf a8 z1) z1)
   (.must (AF.fin z2)
   (.ask (Cm.run .neq z4 0)
   (.leaf (.done (.r0 z4) []))
   (.leaf (.next (.n0 (dshw0 z3) (dshw1 z3) (dshw2 z3) (dshw3 z3) (dshw4 z3) (dshw5 z3) (dshw6 z3) (dshw7 z3)) [3, 4, 5, 6])))))))

noncomputable def dplD (a0 : Bool) (a1 a2 a3 a4 : Int) (a5 : Nat) (a6 a7 : Nat → Int) (a8 : Nat) (a9 a10 a11 a12 : Nat → Int) : dplN → DD (Lf dplN dplR)
 | .n0 p0 p1 p2 p3 p4 p5 p6 p7 =>
 .dead

noncomputable def dplRg0 (a0 : Bool) (a1 a2 a3 a4 : Int) (a5 : Nat) (a6 a7 : Nat → Int) (a8 : Nat) (a9 a10 a11 a12 : Nat → Int) (p0 : Bool) (p1 p2 p3 p4 : Int) (p5 p6 : Nat) (p7 : Int) : dpls0R → DD (Lf dplN dplR)
 | .r0 =>
 .ask (Cm.run .lss 0 p7)
   (.leaf (.done (.r0 7) []))
   (.leaf (.done (.r0 0) []))
 | .r1 q0 q1 q2 q3 =>
 .ask (Cm.run .lss q1 p7)
   (.leaf (.done (.r0 7) []))
   (.leaf (.done (.r1 q0 (fun i => q2 i) (fun i => q3 i)) [7]))

noncomputable def dplA (a0 : Bool) (a1 a2 a3 a4 : Int) (a5 : Nat) (a6 a7 : Nat → Int) (a8 : Nat) (a9 a10 a11 a12 : Nat → Int) : AF dplN dplR where
  code := dplCode
  base := 2
  nt := 35
  m := 400
  un := [1000007]
  W := []
  h0 := [(0, ⟨.arg a5 2 (fun i => [.int .i64 (.x (a6 i)), .int .i64 (.x (a7 i))]) (fun _ => ⟨rfl, rfl⟩), 2, true, none⟩), (1, ⟨.arg a8 4 (fun i => [.int .i64 (.x (a9 i)), .int .i64 (.x (a10 i)), .int .i64 (.x (a11 i)), .int .i64 (.x (a12 i))]) (fun _ => ⟨rfl, rfl⟩), 4, true, none⟩)]
  args := [.agg [.bool (.x a0), .int .i64 (.x a1), .int .i64 (.x a2), .int .i64 (.x a3), .int .i64 (.x a4), .sla 0 2 0 a5], .sla 1 4 0 a8]
  res := (Try.f26).results.toList
  path := fun a => match a with
   | .n0 p0 p1 p2 p3 p4 p5 p6 p7 => [1, 1, 1, 1, 1, 0, 1, 0]
  pd := fun a => match a with
   | .n0 p0 p1 p2 p3 p4 p5 p6 p7 => ⟨[(6, .ptr (some (2, 0))), (8, .ptr (some (3, 0))), (9, .ptr (some (4, 0))), (22, .fn (.func 92) [] [.ptr (some (5, 0))])], [(2, ⟨.lit [.bool (.x p0), .int .i64 (.x p1), .int .i64 (.x p2), .int .i64 (.x p3), .int .i64 (.x p4), .sla 0 2 0 p5, .sla 1 4 0 p6, .int .i64 (.x p7)], 0, true, none⟩), (3, ⟨.lit [.slc none 0 0], 0, true, none⟩), (4, ⟨.lit [.int .i64 (.x 0)], 0, true, none⟩), (5, ⟨.lit [.bool (.x p0), .int .i64 (.x p1), .int .i64 (.x p2), .int .i64 (.x p3), .int .i64 (.x p4), .sla 0 2 0 p5, .sla 1 4 0 p6, .int .i64 (.x p7)], 0, true, none⟩)], 6, []⟩
  D0 := dplD0 a0 a1 a2 a3 a4 a5 a6 a7 a8 a9 a10 a11 a12
  D := dplD a0 a1 a2 a3 a4 a5 a6 a7 a8 a9 a10 a11 a12
  rc := (fun v => match v with
 | .r0 p0 => .tup [.slc none 0 0, .int .i64 (.x p0)]
 | .r1 p0 p1 p2 => .tup [.slx 2 2 0 p0 p0, .int .i64 (.x 0)])
  rh := (fun v => match v with
 | .r0 p0 => []
 | .r1 p0 p1 p2 => [(2, ⟨.rows p0 2 (fun i => [.int .i64 (.x (p1 i)), .int .i64 (.x (p2 i))]) (fun _ => ⟨rfl, rfl⟩), 2, true, none⟩)])
  rn := (fun v => match v with
 | .r0 p0 => 2
 | .r1 p0 p1 p2 => 3)
  rx := (fun v => match v with
 | .r0 p0 => []
 | .r1 p0 p1 p2 => [])
  rgo := (fun a => match a with
   | .n0 p0 p1 p2 p3 p4 p5 p6 p7 => some (fun n => (AF.run (dpls0A a0 a1 a2 a3 a4 a5 a6 a7 a8 a9 a10 a11 a12 p0 p1 p2 p3 p4 p5 p6 p7) n).map (dplRg0 a0 a1 a2 a3 a4 a5 a6 a7 a8 a9 a10 a11 a12 p0 p1 p2 p3 p4 p5 p6 p7)))
theorem dplstart (a0 : Bool) (a1 a2 a3 a4 : Int) (a5 : Nat) (a6 a7 : Nat → Int) (a8 : Nat) (a9 a10 a11 a12 : Nat → Int) : AF.edgeOk (dplA a0 a1 a2 a3 a4 a5 a6 a7 a8 a9 a10 a11 a12) (ctxOf Try.prog memo0) (dplD0 a0 a1 a2 a3 a4 a5 a6 a7 a8 a9 a10 a11 a12) (AF.run0 (dplA a0 a1 a2 a3 a4 a5 a6 a7 a8 a9 a10 a11 a12) (ctxOf Try.prog (memoS 67 drcP drcF drcW drcH 2 (memoP 63 dshP dshF dshW dshH 2 memo0)))) := by unfold AF.edgeOk; kernel_rfl
theorem dplok (a0 : Bool) (a1 a2 a3 a4 : Int) (a5 : Nat) (a6 a7 : Nat → Int) (a8 : Nat) (a9 a10 a11 a12 : Nat → Int) : (dplA a0 a1 a2 a3 a4 a5 a6 a7 a8 a9 a10 a11 a12).Ok Try.prog (ctxOf Try.prog (memoS 67 drcP drcF drcW drcH 2 (memoP 63 dshP dshF dshW dshH 2 memo0))) where
  regs := by kernel_rfl
  h0 := by kernel_rfl
  start := dplstart a0 a1 a2 a3 a4 a5 a6 a7 a8 a9 a10 a11 a12
  node := fun a h => match a, h with
   | .n0 p0 p1 p2 p3 p4 p5 p6 p7, h => someNe h
  pd := fun a => match a with
   | .n0 p0 p1 p2 p3 p4 p5 p6 p7 => ⟨(fa_cons rfl (fa_cons rfl (fa_cons rfl (fa_cons rfl fa_nil)))), (fa_cons ⟨.inl (Nat.le_of_ble_eq_true rfl), rfl, rfl⟩ (fa_cons ⟨.inl (Nat.le_of_ble_eq_true rfl), rfl, rfl⟩ (fa_cons ⟨.inl (Nat.le_of_ble_eq_true rfl), rfl, rfl⟩ (fa_cons ⟨.inl (Nat.le_of_ble_eq_true rfl), rfl, rfl⟩ fa_nil)))), fa_nil, rfl⟩
  le := fun a => match a with
   | .n0 p0 p1 p2 p3 p4 p5 p6 p7 => Nat.le_of_ble_eq_true rfl
  rd := fun v => match v with
   | .r0 p0 => ⟨⟨fa_nil, fa_nil, fa_nil, rfl⟩, rfl⟩
   | .r1 p0 p1 p2 => ⟨⟨fa_nil, (fa_cons ⟨.inl (Nat.le_of_ble_eq_true rfl), (fun _ => rfl), rfl⟩ fa_nil), fa_nil, rfl⟩, rfl⟩
  wb := rfl
theorem dplrg0_0 (a0 : Bool) (a1 a2 a3 a4 : Int) (a5 : Nat) (a6 a7 : Nat → Int) (a8 : Nat) (a9 a10 a11 a12 : Nat → Int) (p0 : Bool) (p1 p2 p3 p4 : Int) (p5 p6 : Nat) (p7 : Int) : AF.edgeOk (dplA a0 a1 a2 a3 a4 a5 a6 a7 a8 a9 a10 a11 a12) (ctxOf Try.prog memo0) (dplRg0 a0 a1 a2 a3 a4 a5 a6 a7 a8 a9 a10 a11 a12 p0 p1 p2 p3 p4 p5 p6 p7 (.r0)) (AF.runR (dplA a0 a1 a2 a3 a4 a5 a6 a7 a8 a9 a10 a11 a12) (ctxOf Try.prog (memoS 67 drcP drcF drcW drcH 2 (memoP 63 dshP dshF dshW dshH 2 memo0))) (.n0 p0 p1 p2 p3 p4 p5 p6 p7) (putH (dpls0A a0 a1 a2 a3 a4 a5 a6 a7 a8 a9 a10 a11 a12 p0 p1 p2 p3 p4 p5 p6 p7).H0 ((dpls0A a0 a1 a2 a3 a4 a5 a6 a7 a8 a9 a10 a11 a12 p0 p1 p2 p3 p4 p5 p6 p7).rh (.r0) ++ (dpls0A a0 a1 a2 a3 a4 a5 a6 a7 a8 a9 a10 a11 a12 p0 p1 p2 p3 p4 p5 p6 p7).rx (.r0))) ((dpls0A a0 a1 a2 a3 a4 a5 a6 a7 a8 a9 a10 a11 a12 p0 p1 p2 p3 p4 p5 p6 p7).rn (.r0)) ⟨mkT [(6, .ptr (some (2, 0))), (8, .ptr (some (3, 0))), (9, .ptr (some (4, 0))), (22, .fn (.func 92) [] [.ptr (some (5, 0))])], 35, rgP (codeAt dplCode [1, 1, 1, 1, 1, 0, 1, 0]), rgA (codeAt dplCode [1, 1, 1, 1, 1, 0, 1, 0]), rgB (codeAt dplCode [1, 1, 1, 1, 1, 0, 1, 0]), .ready, .none⟩ .normal) := by unfold AF.edgeOk; kernel_rfl
theorem dplrg0_1 (a0 : Bool) (a1 a2 a3 a4 : Int) (a5 : Nat) (a6 a7 : Nat → Int) (a8 : Nat) (a9 a10 a11 a12 : Nat → Int) (p0 : Bool) (p1 p2 p3 p4 : Int) (p5 p6 : Nat) (p7 : Int) (q0 : Nat) (q1 : Int) (q2 q3 : Nat → Int) : AF.edgeOk (dplA a0 a1 a2 a3 a4 a5 a6 a7 a8 a9 a10 a11 a12) (ctxOf Try.prog memo0) (dplRg0 a0 a1 a2 a3 a4 a5 a6 a7 a8 a9 a10 a11 a12 p0 p1 p2 p3 p4 p5 p6 p7 (.r1 q0 q1 q2 q3)) (AF.runR (dplA a0 a1 a2 a3 a4 a5 a6 a7 a8 a9 a10 a11 a12) (ctxOf Try.prog (memoS 67 drcP drcF drcW drcH 2 (memoP 63 dshP dshF dshW dshH 2 memo0))) (.n0 p0 p1 p2 p3 p4 p5 p6 p7) (putH (dpls0A a0 a1 a2 a3 a4 a5 a6 a7 a8 a9 a10 a11 a12 p0 p1 p2 p3 p4 p5 p6 p7).H0 ((dpls0A a0 a1 a2 a3 a4 a5 a6 a7 a8 a9 a10 a11 a12 p0 p1 p2 p3 p4 p5 p6 p7).rh (.r1 q0 q1 q2 q3) ++ (dpls0A a0 a1 a2 a3 a4 a5 a6 a7 a8 a9 a10 a11 a12 p0 p1 p2 p3 p4 p5 p6 p7).rx (.r1 q0 q1 q2 q3))) ((dpls0A a0 a1 a2 a3 a4 a5 a6 a7 a8 a9 a10 a11 a12 p0 p1 p2 p3 p4 p5 p6 p7).rn (.r1 q0 q1 q2 q3)) ⟨mkT [(6, .ptr (some (2, 0))), (8, .ptr (some (3, 0))), (9, .ptr (some (4, 0))), (22, .fn (.func 92) [] [.ptr (some (5, 0))])], 35, rgP (codeAt dplCode [1, 1, 1, 1, 1, 0, 1, 0]), rgA (codeAt dplCode [1, 1, 1, 1, 1, 0, 1, 0]), rgB (codeAt dplCode [1, 1, 1, 1, 1, 0, 1, 0]), .ready, .none⟩ .normal) := by unfold AF.edgeOk; kernel_rfl
theorem dplrg0 (a0 : Bool) (a1 a2 a3 a4 : Int) (a5 : Nat) (a6 a7 : Nat → Int) (a8 : Nat) (a9 a10 a11 a12 : Nat → Int) (p0 : Bool) (p1 p2 p3 p4 : Int) (p5 p6 : Nat) (p7 : Int) : AF.Rg (dplA a0 a1 a2 a3 a4 a5 a6 a7 a8 a9 a10 a11 a12) (dpls0A a0 a1 a2 a3 a4 a5 a6 a7 a8 a9 a10 a11 a12 p0 p1 p2 p3 p4 p5 p6 p7) Try.prog (ctxOf Try.prog (memoS 67 drcP drcF drcW drcH 2 (memoP 63 dshP dshF dshW dshH 2 memo0))) (ctxOf Try.prog (memoS 67 drcP drcF drcW drcH 2 (memoP 63 dshP dshF dshW dshH 2 memo0))) (.n0 p0 p1 p2 p3 p4 p5 p6 p7) (rgF (codeAt dplCode [1, 1, 1, 1, 1, 0, 1, 0])) (rgP (codeAt dplCode [1, 1, 1, 1, 1, 0, 1, 0])) (rgA (codeAt dplCode [1, 1, 1, 1, 1, 0, 1, 0])) (rgB (codeAt dplCode [1, 1, 1, 1, 1, 0, 1, 0])) 92 Try.f92 [] [.ptr (some (5, 0))] (fun v => match v with
   | .r0 => ⟨mkT [(6, .ptr (some (2, 0))), (8, .ptr (some (3, 0))), (9, .ptr (some (4, 0))), (22, .fn (.func 92) [] [.ptr (some (5, 0))])], 35, rgP (codeAt dplCode [1, 1, 1, 1, 1, 0, 1, 0]), rgA (codeAt dplCode [1, 1, 1, 1, 1, 0, 1, 0]), rgB (codeAt dplCode [1, 1, 1, 1, 1, 0, 1, 0]), .ready, .none⟩
   | .r1 q0 q1 q2 q3 => ⟨mkT [(6, .ptr (some (2, 0))), (8, .ptr (some (3, 0))), (9, .ptr (some (4, 0))), (22, .fn (.func 92) [] [.ptr (some (5, 0))])], 35, rgP (codeAt dplCode [1, 1, 1, 1, 1, 0, 1, 0]), rgA (codeAt dplCode [1, 1, 1, 1, 1, 0, 1, 0]), rgB (codeAt dplCode [1, 1, 1, 1, 1, 0, 1, 0]), .ready, .none⟩) (fun v => match v with
   | .r0 => .normal
   | .r1 q0 q1 q2 q3 => .normal) (dplRg0 a0 a1 a2 a3 a4 a5 a6 a7 a8 a9 a10 a11 a12 p0 p1 p2 p3 p4 p5 p6 p7) where
  code := by kernel_rfl
  fn := by kernel_rfl
  args := rfl
  base := rfl
  h0 := rfl
  W := rfl
  gfn := Try.func92
  body := rfl
  nt := rfl
  len := Nat.le_of_ble_eq_true rfl
  res := rfl
  ok := dpls0ok a0 a1 a2 a3 a4 a5 a6 a7 a8 a9 a10 a11 a12 p0 p1 p2 p3 p4 p5 p6 p7
  le := fun v => match v with
   | .r0 => Nat.le_of_ble_eq_true rfl
   | .r1 q0 q1 q2 q3 => Nat.le_of_ble_eq_true rfl
  lt := fun v => match v with
   | .r0 => rfl
   | .r1 q0 q1 q2 q3 => rfl
  rcd := fun v => match v with
   | .r0 => rfl
   | .r1 q0 q1 q2 q3 => rfl
  st := fun v => match v with
   | .r0 => (fun h => LoopState.noConfusion h)
   | .r1 q0 q1 q2 q3 => (fun h => LoopState.noConfusion h)
  exd := fun v => match v with
   | .r0 => rfl
   | .r1 q0 q1 q2 q3 => rfl
  D := fun v => match v with
   | .r0 => dplrg0_0 a0 a1 a2 a3 a4 a5 a6 a7 a8 a9 a10 a11 a12 p0 p1 p2 p3 p4 p5 p6 p7
   | .r1 q0 q1 q2 q3 => dplrg0_1 a0 a1 a2 a3 a4 a5 a6 a7 a8 a9 a10 a11 a12 p0 p1 p2 p3 p4 p5 p6 p7 q0 q1 q2 q3
theorem dplhR {ρ : Env} (a0 : Bool) (a1 a2 a3 a4 : Int) (a5 : Nat) (a6 a7 : Nat → Int) (a8 : Nat) (a9 a10 a11 a12 : Nat → Int) (hM : MemoOk Try.prog (ctxOf Try.prog (memoS 67 drcP drcF drcW drcH 2 (memoP 63 dshP dshF dshW dshH 2 memo0))) ρ) : ∀ X a q n D, FxOk ρ X → X.base = (dplA a0 a1 a2 a3 a4 a5 a6 a7 a8 a9 a10 a11 a12).base → X.nt = (dplA a0 a1 a2 a3 a4 a5 a6 a7 a8 a9 a10 a11 a12).nt → X.W = (dplA a0 a1 a2 a3 a4 a5 a6 a7 a8 a9 a10 a11 a12).W → (dplA a0 a1 a2 a3 a4 a5 a6 a7 a8 a9 a10 a11 a12).rgo a = some q → q n = some D → (dplA a0 a1 a2 a3 a4 a5 a6 a7 a8 a9 a10 a11 a12).RangeOk Try.prog ρ X a D := by
  intro X a q n D h1 h2 h3 h4 hq hD
  cases a with
  | n0 p0 p1 p2 p3 p4 p5 p6 p7 =>
    have e := Option.some.inj hq
    subst e
    exact AF.range_ok (n := n) try_ok hM hM (dplok a0 a1 a2 a3 a4 a5 a6 a7 a8 a9 a10 a11 a12) (dplrg0 a0 a1 a2 a3 a4 a5 a6 a7 a8 a9 a10 a11 a12 p0 p1 p2 p3 p4 p5 p6 p7) (dpls0hR a0 a1 a2 a3 a4 a5 a6 a7 a8 a9 a10 a11 a12 p0 p1 p2 p3 p4 p5 p6 p7 hM) h1 h2 h3 h4 hD
theorem dplctr {ρ : Env} (a0 : Bool) (a1 a2 a3 a4 : Int) (a5 : Nat) (a6 a7 : Nat → Int) (a8 : Nat) (a9 a10 a11 a12 : Nat → Int) {n : Nat} {v : dplR} (hM : MemoOk Try.prog (ctxOf Try.prog (memoS 67 drcP drcF drcW drcH 2 (memoP 63 dshP dshF dshW dshH 2 memo0))) ρ) (hv : (dplA a0 a1 a2 a3 a4 a5 a6 a7 a8 a9 a10 a11 a12).run n = some v) :
    Ctr Try.prog ρ 26 (dplA a0 a1 a2 a3 a4 a5 a6 a7 a8 a9 a10 a11 a12).args (dplA a0 a1 a2 a3 a4 a5 a6 a7 a8 a9 a10 a11 a12).H0 (dplA a0 a1 a2 a3 a4 a5 a6 a7 a8 a9 a10 a11 a12).base (dplA a0 a1 a2 a3 a4 a5 a6 a7 a8 a9 a10 a11 a12).W ((dplA a0 a1 a2 a3 a4 a5 a6 a7 a8 a9 a10 a11 a12).rc v) (putH (dplA a0 a1 a2 a3 a4 a5 a6 a7 a8 a9 a10 a11 a12).H0 ((dplA a0 a1 a2 a3 a4 a5 a6 a7 a8 a9 a10 a11 a12).rh v ++ (dplA a0 a1 a2 a3 a4 a5 a6 a7 a8 a9 a10 a11 a12).rx v)) ((dplA a0 a1 a2 a3 a4 a5 a6 a7 a8 a9 a10 a11 a12).rn v) :=
  AF.ctr try_ok hM (dplok a0 a1 a2 a3 a4 a5 a6 a7 a8 a9 a10 a11 a12) (fn := Try.f26) Try.func26 rfl rfl (Nat.le_of_ble_eq_true rfl) rfl (dplhR a0 a1 a2 a3 a4 a5 a6 a7 a8 a9 a10 a11 a12 hM) hv
theorem dplmem {ρ : Env} : MemoOk Try.prog (ctxOf Try.prog (memoS 67 drcP drcF drcW drcH 2 (memoP 63 dshP dshF dshW dshH 2 memo0))) ρ := (memoS_ok (drcknown drcmem) (memoP_ok (dshknown dshmem) memo0_ok))
abbrev dplP : List AQ := [.agg [.bool, .int .i64, .int .i64, .int .i64, .int .i64, .rows [some .i64, some .i64]], .rows [some .i64, some .i64, some .i64, some .i64]]
noncomputable def dplF (v : AW) : AF dplN dplR := dplA (v.b.getD 0 false) (v.i.getD 0 0) (v.i.getD 1 0) (v.i.getD 2 0) (v.i.getD 3 0) (v.t.getD 0 .none).n ((v.t.getD 0 .none).c 0) ((v.t.getD 0 .none).c 1) (v.t.getD 1 .none).n ((v.t.getD 1 .none).c 0) ((v.t.getD 1 .none).c 1) ((v.t.getD 1 .none).c 2) ((v.t.getD 1 .none).c 3)
def dplw0 : dplR → Nat
  | .r0 p0 => 0
  | .r1 p0 p1 p2 => p0
def dplw1 : dplR → Int
  | .r0 p0 => p0
  | .r1 p0 p1 p2 => 0
def dplw2 : dplR → (Nat → Int)
  | .r0 p0 => fun _ => 0
  | .r1 p0 p1 p2 => p1
def dplw3 : dplR → (Nat → Int)
  | .r0 p0 => fun _ => 0
  | .r1 p0 p1 p2 => p2
noncomputable def dplW : dplR → CV := fun v => .tup [.sla 2 2 0 ((dplw0 v)), .int .i64 (.x ((dplw1 v)))]
noncomputable def dplH : dplR → List (Nat × Blk) := fun v => [(2, ⟨.rows ((dplw0 v)) 2 (fun i => [.int .i64 (.x ((dplw2 v) i)), .int .i64 (.x ((dplw3 v) i))]) (fun _ => ⟨rfl, rfl⟩), 2, true, none⟩)]
instance : Inhabited dplR := ⟨.r0 0⟩
theorem dplknown {ρ : Env} (hM : MemoOk Try.prog (ctxOf Try.prog (memoS 67 drcP drcF drcW drcH 2 (memoP 63 dshP dshF dshW dshH 2 memo0))) ρ) : KnownS Try.prog ρ 26 dplP dplF dplW dplH 3 where
  fn := ⟨Try.f26, Try.func26, rfl⟩
  le := Nat.le_of_ble_eq_true rfl
  full := fun r => rfl
  rg := fun r => rfl
  hg := fun r => (fa_cons ⟨fun _ => rfl, rfl⟩ fa_nil)
  ctr := fun v n r h => match r, h with
    | .r0 p0, h => Ctr.weaken (dplctr (v.b.getD 0 false) (v.i.getD 0 0) (v.i.getD 1 0) (v.i.getD 2 0) (v.i.getD 3 0) (v.t.getD 0 .none).n ((v.t.getD 0 .none).c 0) ((v.t.getD 0 .none).c 1) (v.t.getD 1 .none).n ((v.t.getD 1 .none).c 0) ((v.t.getD 1 .none).c 1) ((v.t.getD 1 .none).c 2) ((v.t.getD 1 .none).c 3) hM h) (Nat.le_of_ble_eq_true rfl) (Nat.le_of_ble_eq_true rfl) (fun σ => (fun _ h => VR.tup_imp (VRl.cons_imp (fun _ h => h.nil_sla) (VRl.cons_imp (fun _ h => h) VRl.nil_imp)) h)) (fun b h1 h2 => absurd (Nat.lt_of_le_of_lt h1 h2) (Nat.lt_irrefl _))
    | .r1 p0 p1 p2, h => Ctr.weaken (dplctr (v.b.getD 0 false) (v.i.getD 0 0) (v.i.getD 1 0) (v.i.getD 2 0) (v.i.getD 3 0) (v.t.getD 0 .none).n ((v.t.getD 0 .none).c 0) ((v.t.getD 0 .none).c 1) (v.t.getD 1 .none).n ((v.t.getD 1 .none).c 0) ((v.t.getD 1 .none).c 1) ((v.t.getD 1 .none).c 2) ((v.t.getD 1 .none).c 3) hM h) (Nat.le_of_ble_eq_true rfl) (Nat.le_of_ble_eq_true rfl) (fun σ => (fun _ h => VR.tup_imp (VRl.cons_imp (fun _ h => h.as_sla) (VRl.cons_imp (fun _ h => h) VRl.nil_imp)) h)) (fun b h1 h2 => rfl)
end Go.Proofs.Ythagjhadjpangaa.Cx

/- acme/acmeref07.Plan as an automaton. Made by tools/cxauto.py. -/
namespace Go.Proofs.Ythagjhadjpangaa.Cx
set_option linter.unusedVariables false
set_option linter.unusedSimpArgs false
set_option maxRecDepth 100000
open Go Go.Proofs Go.RowKit
inductive rdpR where
  | r0
  | r1
  | r2 (p0 : Nat) (p1 p2 : Nat → Int)
instance : Inhabited rdpR := ⟨.r0⟩
end Go.Proofs.Ythagjhadjpangaa.Cx

/- Package die: Reach and Plan, the program's and the reference's. -/
namespace Go.Proofs.Ythagjhadjpangaa.Cx
set_option linter.unusedVariables false
set_option linter.unusedSimpArgs false
set_option maxRecDepth 100000
set_option maxHeartbeats 4000000
open Go Go.RowKit
def loJ (a0 : Bool) (a1 a3 : Int) (a6 a7 : Nat → Int) (a8 : Nat) (a9 a10 a11 : Nat → Int) (f : Int) (n : Nat) : Int := LoM (-1152921504606846976) (tlP a0 a1 a3 a6 a7 a10 a9 a11 a8 f) n
def hiJ (a0 : Bool) (a2 a4 : Int) (a6 a7 : Nat → Int) (a8 : Nat) (a9 a10 a12 : Nat → Int) (f : Int) (n : Nat) : Int := HiM 1152921504606846976 (thP a0 a2 a4 a6 a7 a10 a9 a12 a8 f) n
section
variable {a0 : Bool} {a1 a2 a3 a4 : Int} {a5 : Nat} {a6 a7 : Nat → Int} {a8 : Nat} {a9 a10 a11 a12 : Nat → Int} {a13 a14 : Int}
theorem narr : Narr (loJ a0 a1 a3 a6 a7 a8 a9 a10 a11) (hiJ a0 a2 a4 a6 a7 a8 a9 a10 a12) := ⟨fun f i j h => LoM_mono j h, fun f i j h => HiM_mono j h⟩
theorem rj_of (h : JobOk a1 a2 a3 a4 a5 a6 a7 a8 a9 a10 a11 a12) (h0 : 0 ≤ a13) (h1 : a13 < PS a9 a8) {w x y z : Int} (hR : RchG a0 a1 a2 a3 a4 a5 a6 a7 a8 a9 a10 a11 a12 w (-10000000000) 20000000000 a13 (PS a9 a8) x y z) : ∃ J : Nat, RJ (PS a9 a8) (loJ a0 a1 a3 a6 a7 a8 a9 a10 a11) (hiJ a0 a2 a4 a6 a7 a8 a9 a10 a12) a13 J ∧ z = a13 + J ∧ (0 < J → x = (loJ a0 a1 a3 a6 a7 a8 a9 a10 a11) a13 J ∧ y = (hiJ a0 a2 a4 a6 a7 a8 a9 a10 a12) a13 J) := by
  obtain ⟨J, j1, j2, j3, rfl, rfl, rfl⟩ := hR
  have el := h.lo (a0 := a0) (a13 := a13) h0 h1
  have eh := h.hi (a0 := a0) (a13 := a13) h0 h1
  have e1 : 0 < J → LoM (-10000000000) (tlP a0 a1 a3 a6 a7 a10 a9 a11 a8 a13) J = (loJ a0 a1 a3 a6 a7 a8 a9 a10 a11) a13 J ∧ HiM 20000000000 (thP a0 a2 a4 a6 a7 a10 a9 a12 a8 a13) J = (hiJ a0 a2 a4 a6 a7 a8 a9 a10 a12) a13 J := fun hj => by
    obtain ⟨K, rfl⟩ : ∃ K, J = K + 1 := ⟨J - 1, by omega⟩
    exact ⟨el K, eh K⟩
  refine ⟨J, ⟨j1, fun hj => ?_, fun hj => ?_⟩, rfl, e1⟩
  · have := j2 hj
    rw [el, eh] at this
    exact this
  · have := j3 hj
    rw [(e1 hj).1, (e1 hj).2] at this
    exact this
theorem rdr_val (h : JobOk a1 a2 a3 a4 a5 a6 a7 a8 a9 a10 a11 a12) (h0 : 0 ≤ a13) (h1 : a13 < PS a9 a8) : AF.fin (rdrA a0 a1 a2 a3 a4 a5 a6 a7 a8 a9 a10 a11 a12 a13) = true ∧ ∃ J : Nat, RJ (PS a9 a8) (loJ a0 a1 a3 a6 a7 a8 a9 a10 a11) (hiJ a0 a2 a4 a6 a7 a8 a9 a10 a12) a13 J ∧ AF.val (rdrA a0 a1 a2 a3 a4 a5 a6 a7 a8 a9 a10 a11 a12 a13) = ((a13 + (J : Int) : Int)) := by
  obtain ⟨af, av⟩ := rda_val (a0 := a8) (a1 := a9) (a2 := a10) (a3 := a11) (a4 := a12) h.few h.pc
  have avE : AF.val (rdaA a8 (fun i => a9 i) (fun i => a10 i) (fun i => a11 i) (fun i => a12 i)) = _ := av
  have few := h.few
  have tot := (h.wsum (f := a13) (j := 0) h0 (by omega)).2.2
  refine AF.val_sat (E := fun v => ∃ J : Nat, RJ (PS a9 a8) (loJ a0 a1 a3 a6 a7 a8 a9 a10 a11) (hiJ a0 a2 a4 a6 a7 a8 a9 a10 a12) a13 J ∧ v = ((a13 + (J : Int) : Int))) (Inv := fun b => match b with | .n0 p => a13 ≤ p ∧ p ≤ PS a9 a8 ∧ (a13 < p → (loJ a0 a1 a3 a6 a7 a8 a9 a10 a11) a13 (p - a13).toNat ≤ (hiJ a0 a2 a4 a6 a7 a8 a9 a10 a12) a13 (p - a13).toNat)) (fun b => match b with | .n0 p => (PS a9 a8 - p).toNat) (fun _ => rfl) (fun a hI => ?_) ?_
  · cases a with
    | n0 p =>
      obtain ⟨g0, g1, g2⟩ := hI
      show DD.sat _ _ (rdrD a0 a1 a2 a3 a4 a5 a6 a7 a8 a9 a10 a11 a12 a13 (.n0 p))
      unfold rdrD
      have ea : p < PS a9 a8 → Ar.run .add .i64 p 1 = p + 1 := fun h => arAdd (by omega)
      simp only [DD.sat, Nat.zero_add, cmLss, cmLssF, cmLeq, cmLeqF, cmGtr, cmGtrF, cmGeq, cmGeqF, cmEql, cmEqlF, cmNeq, cmNeqF, decide_eq_true_eq, Bool.not_eq_true', Bool.not_eq_false', avE]
      refine ⟨Nat.le_refl _, shape_ok fun i _ => rfl, af, fun hp => ?_, fun hp => ⟨(p - a13).toNat, ⟨by omega, fun hx => by omega, fun hx => g2 (by omega)⟩, by omega⟩⟩
      obtain ⟨tf, tv⟩ := rdt_val (a0 := a0) (a13 := a13) (a14 := p + 1) h h0 (by omega) (by omega)
      have tvE : AF.val (rdtA a0 a1 a2 a3 a4 a5 (fun i => a6 i) (fun i => a7 i) a8 (fun i => a9 i) (fun i => a10 i) (fun i => a11 i) (fun i => a12 i) a13 (p + 1)) = _ := tv
      have en : (p + 1 - a13).toNat = (p - a13).toNat + 1 := by omega
      simp only [ea hp, tvE]
      refine ⟨Nat.le_refl _, shape_ok fun i _ => rfl, Nat.le_refl _, shape_ok fun i _ => rfl, tf, fun hx => ⟨⟨by omega, by omega, fun _ => hx⟩, by omega⟩, fun hx => ⟨(p - a13).toNat, ⟨by omega, fun _ => ?_, fun hx => g2 (by omega)⟩, by omega⟩⟩
      rw [en] at hx
      exact hx
  · exact ⟨Int.le_refl _, Int.le_of_lt h1, fun hx => by omega⟩
/-- What Reach yields. -/
def ReaE (a0 : Bool) (a1 a2 a3 a4 : Int) (a5 : Nat) (a6 a7 : Nat → Int) (a8 : Nat) (a9 a10 a11 a12 : Nat → Int) (a13 : Int) (v : Int × Int) : Prop :=
  ∃ e, CkS a5 a8 (ToolOk a5 a6 a7 a1 a2 a3 a4) a9 a10 a11 a12 e ∧ (e ≠ 0 ∧ v = (0, e) ∨ e = 0 ∧ (¬ (0 ≤ a13 ∧ a13 < PS a9 a8) ∧ v = (0, 3) ∨
    (0 ≤ a13 ∧ a13 < PS a9 a8) ∧ ∃ J : Nat, RJ (PS a9 a8) (loJ a0 a1 a3 a6 a7 a8 a9 a10 a11) (hiJ a0 a2 a4 a6 a7 a8 a9 a10 a12) a13 J ∧ v = (a13 + J, 0)))
theorem dra_val (hn : a5 ≤ 10000) (hm : a8 ≤ 10000) : AF.fin (draA a0 a1 a2 a3 a4 a5 a6 a7 a8 a9 a10 a11 a12 a13) = true ∧ ReaE a0 a1 a2 a3 a4 a5 a6 a7 a8 a9 a10 a11 a12 a13 (AF.val (draA a0 a1 a2 a3 a4 a5 a6 a7 a8 a9 a10 a11 a12 a13)) := by
  obtain ⟨hf, e, hC, hv⟩ := dsh_val (a0 := a0) (a1 := a1) (a2 := a2) (a3 := a3) (a4 := a4) (a5 := a5) (a6 := a6) (a7 := a7) (a8 := a8) (a9 := a9) (a10 := a10) (a11 := a11) (a12 := a12) hn hm
  refine flat_val (E := ReaE a0 a1 a2 a3 a4 a5 a6 a7 a8 a9 a10 a11 a12 a13) (fun _ => rfl) ?_
  show DD.sat _ _ (draD0 a0 a1 a2 a3 a4 a5 a6 a7 a8 a9 a10 a11 a12 a13)
  unfold draD0
  rcases hv with ⟨he, hv⟩ | ⟨rfl, hv⟩
  · have hv' : AF.val (dshA a0 a1 a2 a3 a4 a5 (fun i => a6 i) (fun i => a7 i) a8 (fun i => a9 i) (fun i => a10 i) (fun i => a11 i) (fun i => a12 i)) = .r0 e := hv
    simp only [DD.sat, Nat.zero_add, cmLss, cmLssF, cmLeq, cmLeqF, cmGtr, cmGtrF, cmGeq, cmGeqF, cmEql, cmEqlF, cmNeq, cmNeqF, decide_eq_true_eq, Bool.not_eq_true', Bool.not_eq_false', hv', dshw8]
    refine ⟨Nat.le_refl _, shape_ok fun i _ => rfl, Nat.le_refl _, shape_ok fun i _ => rfl, hf, fun _ => ⟨e, hC, .inl ⟨he, rfl⟩⟩, fun hx => absurd hx he⟩
  · have hv' : AF.val (dshA a0 a1 a2 a3 a4 a5 (fun i => a6 i) (fun i => a7 i) a8 (fun i => a9 i) (fun i => a10 i) (fun i => a11 i) (fun i => a12 i)) = .r1 a0 a1 a2 a3 a4 a5 a8 (PS a9 a8) := hv
    have bad : ¬ (0 ≤ a13 ∧ a13 < PS a9 a8) → ReaE a0 a1 a2 a3 a4 a5 a6 a7 a8 a9 a10 a11 a12 a13 (0, 3) := fun hb => ⟨0, hC, .inr ⟨rfl, .inl ⟨hb, rfl⟩⟩⟩
    have job := hC.job
    have r0 := PS_rng job.pc a8 (Nat.le_refl _)
    have few := job.few
    have es : Ar.run .sub .i64 (PS a9 a8) 1 = PS a9 a8 - 1 := arSub (by omega)
    simp only [DD.sat, Nat.zero_add, cmLss, cmLssF, cmLeq, cmLeqF, cmGtr, cmGtrF, cmGeq, cmGeqF, cmEql, cmEqlF, cmNeq, cmNeqF, decide_eq_true_eq, Bool.not_eq_true', Bool.not_eq_false', hv', dshw0, dshw1, dshw2, dshw3, dshw4, dshw5, dshw6, dshw7, dshw8, es]
    refine ⟨Nat.le_refl _, shape_ok fun i _ => rfl, Nat.le_refl _, shape_ok fun i _ => rfl, hf, fun hx => absurd rfl hx, fun _ => ⟨fun h => bad (by omega), fun h1 => ⟨fun h => bad (by omega), fun h2 => ?_⟩⟩⟩
    obtain ⟨rf, x, y, z, rv, hR⟩ := drc_gen (a0 := a0) (a13 := PS a9 a8) (a14 := -10000000000) (a15 := 20000000000) (a16 := a13) (a17 := PS a9 a8) job (by omega) (by omega) (by omega)
    have rv' : AF.val (drcA a0 a1 a2 a3 a4 a5 (fun i => a6 i) (fun i => a7 i) a8 (fun i => a9 i) (fun i => a10 i) (fun i => a11 i) (fun i => a12 i) (PS a9 a8) (-10000000000) 20000000000 a13 (PS a9 a8)) = _ := rv
    obtain ⟨J, hJ, rfl, _⟩ := rj_of job h1 (by omega) hR
    simp only [rv']
    exact ⟨Nat.le_refl _, shape_ok fun i _ => rfl, Nat.le_refl _, shape_ok fun i _ => rfl, rf, 0, hC, .inr ⟨rfl, .inr ⟨by omega, J, hJ, rfl⟩⟩⟩
/-- No plan: it gets stuck. -/
def Stk (T : Int) (lo hi : Int → Nat → Int) : Prop := ∃ k f F G, Chn T lo hi k f F G ∧ f < T ∧ RJ T lo hi f 0
def DpsS (T : Int) (lo hi : Int → Nat → Int) : dpls0R → Prop
  | .r0 => RJ T lo hi 0 0
  | .r1 q0 q1 q2 q3 => Chn T lo hi q0 q1 q2 q3 ∧ (q1 = T ∨ q1 < T ∧ RJ T lo hi q1 0)
theorem bif_lt {i k : Nat} {x y : Int} (h : i < k) : (bif Nat.blt i k then x else y) = x := by
  have : Nat.blt i k = true := by rw [Nat.blt_eq]; exact h
  rw [this]; rfl
theorem bif_ge {k : Nat} {x y : Int} : (bif Nat.blt k k then x else y) = y := by
  have : Nat.blt k k = false := by
    cases h : Nat.blt k k with
    | false => rfl
    | true =>
      rw [Nat.blt_eq] at h
      exact absurd h (Nat.lt_irrefl _)
  rw [this]; rfl
theorem dps_gen (h : JobOk a1 a2 a3 a4 a5 a6 a7 a8 a9 a10 a11 a12) (hT : 0 < PS a9 a8) (h3 : PS a9 a8 ≤ 10000) : ∃ n v, AF.run (dpls0A a0 a1 a2 a3 a4 a5 a6 a7 a8 a9 a10 a11 a12 a0 a1 a2 a3 a4 a5 a8 (PS a9 a8)) n = some v ∧ DpsS (PS a9 a8) (loJ a0 a1 a3 a6 a7 a8 a9 a10 a11) (hiJ a0 a2 a4 a6 a7 a8 a9 a10 a12) v := by
  have step : ∀ q, 0 ≤ q → q < PS a9 a8 → AF.fin (drcA a0 a1 a2 a3 a4 a5 a6 a7 a8 a9 a10 a11 a12 (PS a9 a8) (-10000000000) 20000000000 q (PS a9 a8)) = true ∧ ∃ x y z, AF.val (drcA a0 a1 a2 a3 a4 a5 (fun i => a6 i) (fun i => a7 i) a8 (fun i => a9 i) (fun i => a10 i) (fun i => a11 i) (fun i => a12 i) (PS a9 a8) (-10000000000) 20000000000 q (PS a9 a8)) = (x, y, z) ∧ ∃ J : Nat, RJ (PS a9 a8) (loJ a0 a1 a3 a6 a7 a8 a9 a10 a11) (hiJ a0 a2 a4 a6 a7 a8 a9 a10 a12) q J ∧ z = q + J ∧ (0 < J → x = (loJ a0 a1 a3 a6 a7 a8 a9 a10 a11) q J ∧ y = (hiJ a0 a2 a4 a6 a7 a8 a9 a10 a12) q J) := fun q q0 q1 => by
    obtain ⟨rf, x, y, z, rv, hR⟩ := drc_gen (a0 := a0) (a13 := PS a9 a8) (a14 := -10000000000) (a15 := 20000000000) (a16 := q) (a17 := PS a9 a8) h q0 (by omega) (Int.le_refl _)
    exact ⟨rf, x, y, z, rv, rj_of h q0 q1 hR⟩
  refine AF.run_sat (E := DpsS (PS a9 a8) (loJ a0 a1 a3 a6 a7 a8 a9 a10 a11) (hiJ a0 a2 a4 a6 a7 a8 a9 a10 a12)) (Inv := fun b => match b with | .n0 => True | .n1 q0 q1 q2 q3 => Chn (PS a9 a8) (loJ a0 a1 a3 a6 a7 a8 a9 a10 a11) (hiJ a0 a2 a4 a6 a7 a8 a9 a10 a12) q1 q0 q2 q3 ∧ 0 ≤ q0 ∧ q0 ≤ PS a9 a8)
    (fun b => match b with | .n0 => (PS a9 a8).toNat + 1 | .n1 q0 q1 q2 q3 => (PS a9 a8 - q0).toNat) (fun b => rfl) (fun a hI => ?_) ?_
  · cases a with
    | n0 =>
      show DD.sat _ _ (dpls0D a0 a1 a2 a3 a4 a5 a6 a7 a8 a9 a10 a11 a12 a0 a1 a2 a3 a4 a5 a8 (PS a9 a8) .n0)
      unfold dpls0D
      obtain ⟨rf, x, y, z, rv, J, hJ, hz, hxy⟩ := step 0 (Int.le_refl _) hT
      obtain rfl : z = J := by omega
      simp only [DD.sat, Nat.zero_add, cmLss, cmLssF, cmLeq, cmLeqF, cmGtr, cmGtrF, cmGeq, cmGeqF, cmEql, cmEqlF, cmNeq, cmNeqF, decide_eq_true_eq, Bool.not_eq_true', Bool.not_eq_false', rv]
      refine ⟨fun _ => ⟨Nat.le_refl _, shape_ok fun i _ => rfl, Nat.le_refl _, shape_ok fun i _ => rfl, rf, fun hj => ?_, fun hj => ⟨⟨?_, by omega, ?_⟩, ?_⟩⟩, fun hx => by omega⟩
      · obtain rfl : J = 0 := by omega
        exact hJ
      · have e := (hxy (by omega)).1
        subst e
        have c := (Chn.nil (F := fun _ => 0) (G := fun _ => 0)).next (F' := fun _ => 0) (G' := fun _ => (loJ a0 a1 a3 a6 a7 a8 a9 a10 a11) 0 J) hJ (by omega) (fun _ _ => rfl) (fun i hi => by omega) rfl rfl
        rw [Int.zero_add] at c
        exact c
      · have := hJ.1; omega
      · omega
    | n1 q0 q1 q2 q3 =>
      obtain ⟨c, g0, g1⟩ := hI
      have cl := c.len
      show DD.sat _ _ (dpls0D a0 a1 a2 a3 a4 a5 a6 a7 a8 a9 a10 a11 a12 a0 a1 a2 a3 a4 a5 a8 (PS a9 a8) (.n1 q0 q1 q2 q3))
      unfold dpls0D
      by_cases hq : q0 < PS a9 a8
      · obtain ⟨rf, x, y, z, rv, J, hJ, rfl, hxy⟩ := step q0 g0 hq
        simp only [DD.sat, Nat.zero_add, cmLss, cmLssF, cmLeq, cmLeqF, cmGtr, cmGtrF, cmGeq, cmGeqF, cmEql, cmEqlF, cmNeq, cmNeqF, decide_eq_true_eq, Bool.not_eq_true', Bool.not_eq_false', rv]
        refine ⟨fun _ => ⟨Nat.le_refl _, shape_ok fun i _ => rfl, Nat.le_refl _, shape_ok fun i _ => rfl, rf, fun hj => ⟨c, .inr ⟨hq, ?_⟩⟩, fun hj => ⟨Nat.le_refl _, by omega, ⟨?_, by omega, ?_⟩, ?_⟩⟩, fun hx => by omega⟩
        · obtain rfl : J = 0 := by omega
          exact hJ
        · have e := (hxy (by omega)).1
          subst e
          exact c.next hJ (by omega) (fun i hi => bif_lt hi) (fun i hi => bif_lt hi) bif_ge bif_ge
        · have := hJ.1; omega
        · have := hJ.1; omega
      · simp only [DD.sat, Nat.zero_add, cmLss, cmLssF, cmLeq, cmLeqF, cmGtr, cmGtrF, cmGeq, cmGeqF, cmEql, cmEqlF, cmNeq, cmNeqF, decide_eq_true_eq, Bool.not_eq_true', Bool.not_eq_false']
        exact ⟨fun hx => by omega, fun _ => ⟨c, .inl (by omega)⟩⟩
  · show True
    trivial
/-- What Plan yields. -/
def PlnE (a0 : Bool) (a1 a2 a3 a4 : Int) (a5 : Nat) (a6 a7 : Nat → Int) (a8 : Nat) (a9 a10 a11 a12 : Nat → Int) (v : dplR) : Prop :=
  ∃ e, CkS a5 a8 (ToolOk a5 a6 a7 a1 a2 a3 a4) a9 a10 a11 a12 e ∧ (e ≠ 0 ∧ v = .r0 e ∨ e = 0 ∧ (Stk (PS a9 a8) (loJ a0 a1 a3 a6 a7 a8 a9 a10 a11) (hiJ a0 a2 a4 a6 a7 a8 a9 a10 a12) ∧ v = .r0 7 ∨ ∃ k F G, Chn (PS a9 a8) (loJ a0 a1 a3 a6 a7 a8 a9 a10 a11) (hiJ a0 a2 a4 a6 a7 a8 a9 a10 a12) k (PS a9 a8) F G ∧ v = .r1 k F G))
theorem dpl_mono : AF.Mono (dplA a0 a1 a2 a3 a4 a5 a6 a7 a8 a9 a10 a11 a12) := AF.mono_map fun a => by
  cases a with
  | n0 p0 p1 p2 p3 p4 p5 p6 p7 => exact .inr ⟨_, _, _, _, AF.mono_none (fun _ => rfl), rfl⟩
theorem JobOk.pos (h : CkS a5 a8 (ToolOk a5 a6 a7 a1 a2 a3 a4) a9 a10 a11 a12 0) : 0 < PS a9 a8 := by
  have := h.ok.2.2.1
  have := PS_rng h.job.pc a8 (Nat.le_refl _)
  omega
theorem dpl_val (hn : a5 ≤ 10000) (hm : a8 ≤ 10000) (hp : CkS a5 a8 (ToolOk a5 a6 a7 a1 a2 a3 a4) a9 a10 a11 a12 0 → PS a9 a8 ≤ 10000) : AF.fin (dplA a0 a1 a2 a3 a4 a5 a6 a7 a8 a9 a10 a11 a12) = true ∧ PlnE a0 a1 a2 a3 a4 a5 a6 a7 a8 a9 a10 a11 a12 (AF.val (dplA a0 a1 a2 a3 a4 a5 a6 a7 a8 a9 a10 a11 a12)) := by
  obtain ⟨hf, e, hC, hv⟩ := dsh_val (a0 := a0) (a1 := a1) (a2 := a2) (a3 := a3) (a4 := a4) (a5 := a5) (a6 := a6) (a7 := a7) (a8 := a8) (a9 := a9) (a10 := a10) (a11 := a11) (a12 := a12) hn hm
  refine AF.val_satR (A := dplA a0 a1 a2 a3 a4 a5 a6 a7 a8 a9 a10 a11 a12) (E := PlnE a0 a1 a2 a3 a4 a5 a6 a7 a8 a9 a10 a11 a12) (Inv := fun b => match b with | .n0 p0 p1 p2 p3 p4 p5 p6 p7 => (p0 = a0 ∧ p1 = a1 ∧ p2 = a2 ∧ p3 = a3 ∧ p4 = a4 ∧ p5 = a5 ∧ p6 = a8 ∧ p7 = PS a9 a8) ∧ e = 0) dpl_mono (fun _ => 0) (fun a hI => .inr ?_) ?_
  · cases a with
    | n0 p0 p1 p2 p3 p4 p5 p6 p7 =>
      obtain ⟨⟨rfl, rfl, rfl, rfl, rfl, rfl, rfl, rfl⟩, rfl⟩ := hI
      obtain ⟨n, v, hv, hE⟩ := dps_gen (a0 := p0) hC.job (JobOk.pos hC) (hp hC)
      refine ⟨_, n, dplRg0 p0 p1 p2 p3 p4 p5 a6 a7 p6 a9 a10 a11 a12 p0 p1 p2 p3 p4 p5 p6 (PS a9 p6) v, rfl, ?_, ?_⟩
      · show Option.map _ (AF.run _ n) = _
        rw [hv]; rfl
      · cases v with
        | r0 =>
          unfold dplRg0
          simp only [DD.sat, Nat.zero_add, cmLss, cmLssF, cmLeq, cmLeqF, cmGtr, cmGtrF, cmGeq, cmGeqF, cmEql, cmEqlF, cmNeq, cmNeqF, decide_eq_true_eq, Bool.not_eq_true', Bool.not_eq_false']
          exact ⟨fun hx => ⟨0, hC, .inr ⟨rfl, .inl ⟨⟨0, 0, fun _ => 0, fun _ => 0, Chn.nil, hx, hE⟩, rfl⟩⟩⟩, fun hx => by have := JobOk.pos hC; omega⟩
        | r1 q0 q1 q2 q3 =>
          obtain ⟨c, hq⟩ := hE
          unfold dplRg0
          simp only [DD.sat, Nat.zero_add, cmLss, cmLssF, cmLeq, cmLeqF, cmGtr, cmGtrF, cmGeq, cmGeqF, cmEql, cmEqlF, cmNeq, cmNeqF, decide_eq_true_eq, Bool.not_eq_true', Bool.not_eq_false']
          refine ⟨fun hx => ⟨0, hC, .inr ⟨rfl, .inl ⟨⟨q0, q1, q2, q3, c, hx, ?_⟩, rfl⟩⟩⟩, fun hx => ⟨0, hC, .inr ⟨rfl, .inr ⟨q0, q2, q3, ?_, rfl⟩⟩⟩⟩
          · rcases hq with hq | ⟨_, hq⟩
            · omega
            · exact hq
          · rcases hq with rfl | ⟨hq, _⟩
            · exact c
            · omega
  · show DD.sat _ _ (dplD0 a0 a1 a2 a3 a4 a5 a6 a7 a8 a9 a10 a11 a12)
    unfold dplD0
    rcases hv with ⟨he, hv⟩ | ⟨rfl, hv⟩
    · have hv' : AF.val (dshA a0 a1 a2 a3 a4 a5 (fun i => a6 i) (fun i => a7 i) a8 (fun i => a9 i) (fun i => a10 i) (fun i => a11 i) (fun i => a12 i)) = .r0 e := hv
      simp only [DD.sat, Nat.zero_add, cmLss, cmLssF, cmLeq, cmLeqF, cmGtr, cmGtrF, cmGeq, cmGeqF, cmEql, cmEqlF, cmNeq, cmNeqF, decide_eq_true_eq, Bool.not_eq_true', Bool.not_eq_false', hv', dshw8]
      refine ⟨Nat.le_refl _, shape_ok fun i _ => rfl, Nat.le_refl _, shape_ok fun i _ => rfl, hf, fun _ => ⟨e, hC, .inl ⟨he, rfl⟩⟩, fun hx => absurd hx he⟩
    · have hv' : AF.val (dshA a0 a1 a2 a3 a4 a5 (fun i => a6 i) (fun i => a7 i) a8 (fun i => a9 i) (fun i => a10 i) (fun i => a11 i) (fun i => a12 i)) = .r1 a0 a1 a2 a3 a4 a5 a8 (PS a9 a8) := hv
      simp only [DD.sat, Nat.zero_add, cmLss, cmLssF, cmLeq, cmLeqF, cmGtr, cmGtrF, cmGeq, cmGeqF, cmEql, cmEqlF, cmNeq, cmNeqF, decide_eq_true_eq, Bool.not_eq_true', Bool.not_eq_false', hv', dshw0, dshw1, dshw2, dshw3, dshw4, dshw5, dshw6, dshw7, dshw8]
      refine ⟨Nat.le_refl _, shape_ok fun i _ => rfl, Nat.le_refl _, shape_ok fun i _ => rfl, hf, fun hx => absurd rfl hx, fun _ => (by repeat' (first | trivial | omega | apply And.intro))⟩
end
end Go.Proofs.Ythagjhadjpangaa.Cx

/- Package die: settings that go as far as they can make the most pieces sure, in plain Lean. -/
namespace Go.Proofs.Ythagjhadjpangaa.Cx
set_option linter.unusedVariables false
set_option linter.unusedSimpArgs false
set_option maxRecDepth 100000
set_option maxHeartbeats 4000000
open Go Go.RowKit
/-- There is a target for the pieces from f to n - 1. -/
def CanP (lo hi : Int → Nat → Int) (f n : Int) : Prop := lo f (n - f).toNat ≤ hi f (n - f).toNat
/-- What one setting makes sure it does also if it begins later; it goes somewhere from each piece. -/
structure Late (T : Int) (lo hi : Int → Nat → Int) : Prop where
  narr : Narr lo hi
  late : ∀ f f' n, 0 ≤ f → f ≤ f' → f' < n → n ≤ T → CanP lo hi f n → CanP lo hi f' n
  ex : ∀ f, 0 ≤ f → f < T → ∃ J, RJ T lo hi f J
open Classical in
noncomputable def JO (T : Int) (lo hi : Int → Nat → Int) (f : Int) : Nat := if h : ∃ J, RJ T lo hi f J then h.choose else 0
noncomputable def GE (T : Int) (lo hi : Int → Nat → Int) : Nat → Int
  | 0 => 0
  | k + 1 => GE T lo hi k + JO T lo hi (GE T lo hi k)
section
variable {T : Int} {lo hi : Int → Nat → Int}
theorem JO_spec (m : Late T lo hi) {f : Int} (h0 : 0 ≤ f) (h1 : f ≤ T) : RJ T lo hi f (JO T lo hi f) := by
  have e : ∃ J, RJ T lo hi f J := by
    by_cases h : f < T
    · exact m.ex f h0 h
    · exact ⟨0, by omega, fun hx => by omega, fun hx => by omega⟩
  unfold JO
  rw [dif_pos e]
  exact e.choose_spec
theorem JO_of (m : Late T lo hi) {f : Int} (h0 : 0 ≤ f) (h1 : f ≤ T) {J : Nat} (h : RJ T lo hi f J) : JO T lo hi f = J := (JO_spec m h0 h1).uniq m.narr h
theorem GE_rng (m : Late T lo hi) (hT : 0 ≤ T) : ∀ k, 0 ≤ GE T lo hi k ∧ GE T lo hi k ≤ T
  | 0 => by rw [GE]; omega
  | k + 1 => by
    have a := GE_rng m hT k
    have b := (JO_spec m a.1 a.2).1
    rw [GE]
    omega
theorem GE_mono (m : Late T lo hi) {i : Nat} : ∀ j, i ≤ j → GE T lo hi i ≤ GE T lo hi j
  | 0, h => by
    obtain rfl : i = 0 := by omega
    exact Int.le_refl _
  | j + 1, h => by
    by_cases he : i = j + 1
    · rw [he]; exact Int.le_refl _
    · have := GE_mono m (i := i) j (by omega)
      rw [GE]
      omega
theorem can_iff (m : Late T lo hi) {f n : Int} (h0 : 0 ≤ f) (h1 : f < n) (h2 : n ≤ T) : CanP lo hi f n ↔ n ≤ f + JO T lo hi f := by
  have s := JO_spec m h0 (Int.le_of_lt (Int.lt_of_lt_of_le h1 h2))
  unfold CanP
  constructor
  · intro hc
    refine Int.not_lt.1 fun hx => ?_
    have a := s.2.1 (by omega)
    have b := m.narr.lo f (JO T lo hi f + 1) (n - f).toNat (by omega)
    have c := m.narr.hi f (JO T lo hi f + 1) (n - f).toNat (by omega)
    omega
  · intro hx
    have a := s.2.2 (by omega)
    have b := m.narr.lo f (n - f).toNat (JO T lo hi f) (by omega)
    have c := m.narr.hi f (n - f).toNat (JO T lo hi f) (by omega)
    omega
theorem GE_stuck (m : Late T lo hi) {k : Nat} (h : JO T lo hi (GE T lo hi k) = 0) : ∀ d, GE T lo hi (k + d) = GE T lo hi k
  | 0 => rfl
  | d + 1 => by
    rw [show k + (d + 1) = (k + d) + 1 by omega, GE, GE_stuck m h d, h]
    omega
/-- With how few settings the first pieces can be sure, for all numbers of pieces below n. -/
def FewS (T : Int) (lo hi : Int → Nat → Int) (n : Nat) (out : Nat → Int) : Prop :=
  ∀ j, j < n → (0 ≤ out j ∧ out j ≤ 1000000) ∧ ∀ k : Nat, k < 1000000 → (out j ≤ k ↔ (j : Int) ≤ GE T lo hi k)
/-- The best of the last settings from p on. -/
def BestS (lo hi : Int → Nat → Int) (n : Nat) (out : Nat → Int) (p : Int) (best : Int) : Prop :=
  (0 ≤ best ∧ best ≤ 1000000) ∧ (∀ f : Nat, p < f → f < n → out f < 1000000 → CanP lo hi f n → best ≤ out f + 1) ∧ (best = 1000000 ∨ ∃ f : Nat, f < n ∧ out f < 1000000 ∧ CanP lo hi f n ∧ best = out f + 1)
theorem few_next (m : Late T lo hi) (hT : 0 ≤ T) {n : Nat} {out : Nat → Int} {best : Int} (h0 : 0 < n) (h1 : (n : Int) ≤ T) (hF : FewS T lo hi n out) (hB : BestS lo hi n out (-1) best) : ∀ k : Nat, k < 1000000 → (best ≤ k ↔ (n : Int) ≤ GE T lo hi k) := by
  obtain ⟨b0, b1, b2⟩ := hB
  have back : ∀ k : Nat, k < 1000000 → (n : Int) ≤ GE T lo hi k → best ≤ k := by
    intro k
    induction k with
    | zero => intro _ h; rw [GE] at h; omega
    | succ k ih =>
      intro hk h
      by_cases hn : (n : Int) ≤ GE T lo hi k
      · have := ih (by omega) hn
        omega
      · have r := GE_rng m hT k
        have e : (((GE T lo hi k).toNat : Nat) : Int) = GE T lo hi k := Int.toNat_of_nonneg r.1
        have f := (hF (GE T lo hi k).toNat (by omega)).2 k (by omega)
        have c := (can_iff m r.1 (by omega) h1).2 (by rw [GE] at h; exact h)
        have fb := f.2 (by omega)
        have q := b1 (GE T lo hi k).toNat (by omega) (by omega) (by omega) (by rw [e]; exact c)
        omega
  intro k hk
  refine ⟨fun h => ?_, back k hk⟩
  rcases b2 with b2 | ⟨f, f1, f2, f3, f4⟩
  · omega
  · have a := hF f f1
    obtain ⟨j, rfl⟩ : ∃ j, k = j + 1 := ⟨k - 1, by omega⟩
    have g := (a.2 j (by omega)).1 (by omega)
    have mo := GE_mono m (i := j) (j + 1) (by omega)
    by_cases hn : (n : Int) ≤ GE T lo hi j
    · omega
    · have r := GE_rng m hT j
      have c := m.late f (GE T lo hi j) n (by omega) g (by omega) h1 f3
      rw [GE]
      exact (can_iff m r.1 (by omega) h1).1 c
end
end Go.Proofs.Ythagjhadjpangaa.Cx

/- Package die: what one setting makes sure it does also if it begins later. -/
namespace Go.Proofs.Ythagjhadjpangaa.Cx
set_option linter.unusedVariables false
set_option linter.unusedSimpArgs false
set_option maxRecDepth 100000
set_option maxHeartbeats 4000000
open Go Go.RowKit
theorem LoM_le {t x : Int} {tl : Nat → Int} : ∀ m, LoM t tl m ≤ x ↔ t ≤ x ∧ ∀ j, j < m → tl j ≤ x
  | 0 => ⟨fun h => ⟨h, fun j hj => by omega⟩, fun h => h.1⟩
  | m + 1 => by
    rw [LoM]
    have := LoM_le (t := t) (x := x) (tl := tl) m
    constructor
    · intro h
      have a := this.1 (by omega)
      refine ⟨a.1, fun j hj => ?_⟩
      by_cases he : j < m
      · exact a.2 j he
      · obtain rfl : j = m := by omega
        omega
    · rintro ⟨h1, h2⟩
      have a := this.2 ⟨h1, fun j hj => h2 j (by omega)⟩
      have b := h2 m (by omega)
      omega
theorem HiM_ge {t x : Int} {th : Nat → Int} : ∀ m, x ≤ HiM t th m ↔ x ≤ t ∧ ∀ j, j < m → x ≤ th j
  | 0 => ⟨fun h => ⟨h, fun j hj => by omega⟩, fun h => h.1⟩
  | m + 1 => by
    rw [HiM]
    have := HiM_ge (t := t) (x := x) (th := th) m
    constructor
    · intro h
      have a := this.1 (by omega)
      refine ⟨a.1, fun j hj => ?_⟩
      by_cases he : j < m
      · exact a.2 j he
      · obtain rfl : j = m := by omega
        omega
    · rintro ⟨h1, h2⟩
      have a := this.2 ⟨h1, fun j hj => h2 j (by omega)⟩
      have b := h2 m (by omega)
      omega
theorem can_pairs {t t' : Int} {tl th : Nat → Int} {m : Nat} (h0 : t ≤ t') (h1 : ∀ j, j < m → tl j ≤ t') (h2 : ∀ j, j < m → t ≤ th j) : LoM t tl m ≤ HiM t' th m ↔ ∀ i j, i < m → j < m → tl i ≤ th j := by
  rw [LoM_le]
  constructor
  · rintro ⟨a, b⟩ i j hi hj
    exact ((HiM_ge m).1 (b i hi)).2 j hj
  · intro h
    exact ⟨(HiM_ge m).2 ⟨h0, h2⟩, fun i hi => (HiM_ge m).2 ⟨h1 i hi, fun j hj => h i j hi hj⟩⟩
theorem WSum_split {g : Int → Int} {f : Int} {d : Nat} : ∀ j, WSum g f (d + j) = WSum g f d + WSum g (f + d) j
  | 0 => by rw [Nat.add_zero, WSum, Int.add_zero]
  | j + 1 => by
    rw [show d + (j + 1) = (d + j) + 1 by omega, WSum, WSum, WSum_split j]
    rw [show f + ((d + j : Nat) : Int) = f + d + j by omega]
    omega
theorem WSum_le {g g' : Int → Int} {f : Int} : ∀ j : Nat, (∀ i : Nat, i < j → g (f + i) ≤ g' (f + i)) → WSum g f j ≤ WSum g' f j
  | 0, _ => Int.le_refl _
  | j + 1, h => by
    have a := WSum_le (g := g) (g' := g') (f := f) j (fun i hi => h i (by omega))
    have b := h j (by omega)
    rw [WSum, WSum]
    omega
section
variable {a0 : Bool} {a1 a2 a3 a4 : Int} {a5 : Nat} {a6 a7 : Nat → Int} {a8 : Nat} {a9 a10 a11 a12 : Nat → Int}
theorem JobOk.wle (h : JobOk a1 a2 a3 a4 a5 a6 a7 a8 a9 a10 a11 a12) {f : Int} {j : Nat} (h0 : 0 ≤ f) (h1 : f + j ≤ PS a9 a8) : WSum (gW a6 a10 a9 a8) f j ≤ WSum (gW a7 a10 a9 a8) f j := WSum_le j fun i hi => (h.at' (x := f + i) (by omega) (by omega)).2.2.2.2.1
theorem JobOk.tbd (h : JobOk a1 a2 a3 a4 a5 a6 a7 a8 a9 a10 a11 a12) {f : Int} {j : Nat} (h0 : 0 ≤ f) (h1 : f + j < PS a9 a8) : (-100000000000 ≤ tlP a0 a1 a3 a6 a7 a10 a9 a11 a8 f j ∧ tlP a0 a1 a3 a6 a7 a10 a9 a11 a8 f j ≤ 100000000000) ∧ (-100000000000 ≤ thP a0 a2 a4 a6 a7 a10 a9 a12 a8 f j ∧ thP a0 a2 a4 a6 a7 a10 a9 a12 a8 f j ≤ 100000000000) := by
  have w := h.wsum (f := f) (j := j) h0 (by omega)
  have t := (h.at' (x := f + j) (by omega) (by omega)).2.2.1
  obtain ⟨_, _, s1, s2⟩ := h.tool
  unfold VOk at s1 s2
  unfold tlP thP gL gH
  cases a0 <;> simp only [cond_true, cond_false] <;> omega
theorem JobOk.late (h : JobOk a1 a2 a3 a4 a5 a6 a7 a8 a9 a10 a11 a12) : Late (PS a9 a8) (loJ a0 a1 a3 a6 a7 a8 a9 a10 a11) (hiJ a0 a2 a4 a6 a7 a8 a9 a10 a12) := by
  refine ⟨narr, fun f f' n h0 h1 h2 h3 hc => ?_, fun f h0 h1 => ?_⟩
  · obtain ⟨d, rfl⟩ : ∃ d : Nat, f' = f + d := ⟨(f' - f).toNat, by omega⟩
    obtain ⟨m, rfl⟩ : ∃ m : Nat, n = f + d + m := ⟨(n - (f + d)).toNat, by omega⟩
    unfold CanP loJ hiJ at *
    rw [show (f + d + m - f).toNat = d + m by omega] at hc
    rw [show (f + d + m - (f + d)).toNat = m by omega]
    have b := fun j (hj : j < d + m) => h.tbd (a0 := a0) (f := f) (j := j) h0 (by omega)
    have b' := fun j (hj : j < m) => h.tbd (a0 := a0) (f := f + d) (j := j) (by omega) (by omega)
    rw [can_pairs (by omega) (fun j hj => by have := b j hj; omega) (fun j hj => by have := b j hj; omega)] at hc
    rw [can_pairs (by omega) (fun j hj => by have := b' j hj; omega) (fun j hj => by have := b' j hj; omega)]
    intro i j hi hj
    have q := hc (d + i) (d + j) (by omega) (by omega)
    have wl := h.wle (f := f) (j := d) h0 (by omega)
    have e1 : tlP a0 a1 a3 a6 a7 a10 a9 a11 a8 (f + d) i = tlP a0 a1 a3 a6 a7 a10 a9 a11 a8 f (d + i) + gL a0 (WSum (gW a6 a10 a9 a8) f d) (WSum (gW a7 a10 a9 a8) f d) := by
      unfold tlP gL
      rw [WSum_split, WSum_split, show f + d + (i : Int) = f + ((d + i : Nat) : Int) by omega]
      cases a0 <;> simp only [cond_true, cond_false] <;> omega
    have e2 : thP a0 a2 a4 a6 a7 a10 a9 a12 a8 (f + d) j = thP a0 a2 a4 a6 a7 a10 a9 a12 a8 f (d + j) + gH a0 (WSum (gW a6 a10 a9 a8) f d) (WSum (gW a7 a10 a9 a8) f d) := by
      unfold thP gH
      rw [WSum_split, WSum_split, show f + d + (j : Int) = f + ((d + j : Nat) : Int) by omega]
      cases a0 <;> simp only [cond_true, cond_false] <;> omega
    rw [e1, e2]
    unfold gL gH
    cases a0 <;> simp only [cond_true, cond_false] <;> omega
  · obtain ⟨_, J, hJ, _⟩ := rdr_val (a0 := a0) h h0 h1
    exact ⟨J, hJ⟩
end
end Go.Proofs.Ythagjhadjpangaa.Cx

/- acme/die.Looks as an automaton. Made by tools/cxauto.py. -/
namespace Go.Proofs.Ythagjhadjpangaa.Cx
set_option linter.unusedVariables false
set_option linter.unusedSimpArgs false
set_option maxRecDepth 100000
open Go Go.Proofs Go.RowKit
abbrev dloR := Int × Int
instance : Inhabited dloR := ⟨(0, 0)⟩
end Go.Proofs.Ythagjhadjpangaa.Cx

/- acme/acmeref07.Looks as an automaton. Made by tools/cxauto.py. -/
namespace Go.Proofs.Ythagjhadjpangaa.Cx
set_option linter.unusedVariables false
set_option linter.unusedSimpArgs false
set_option maxRecDepth 100000
open Go Go.Proofs Go.RowKit
abbrev rlkR := Int
instance : Inhabited rlkR := ⟨0⟩
end Go.Proofs.Ythagjhadjpangaa.Cx

/- Package die: one setting on one order; die.Looks and acmeref07.Looks. -/
namespace Go.Proofs.Ythagjhadjpangaa.Cx
set_option linter.unusedVariables false
set_option linter.unusedSimpArgs false
set_option maxRecDepth 100000
set_option maxHeartbeats 4000000
open Go Go.RowKit
section
variable {a0 : Bool} {a1 a2 a3 a4 : Int} {a5 : Nat} {a6 a7 : Nat → Int} {a9 a10 a11 a12 : Nat → Int}
end
section
variable {a0 : Bool} {a1 a2 a3 a4 : Int} {a5 : Nat} {a6 a7 : Nat → Int} {a8 a9 a10 a11 a12 : Int}
end
end Go.Proofs.Ythagjhadjpangaa.Cx

/- acme/acmelaw07.DieLearned$1 as an automaton. Made by tools/cxauto.py. -/
namespace Go.Proofs.Ythagjhadjpangaa.Cx
set_option linter.unusedVariables false
set_option linter.unusedSimpArgs false
set_option maxRecDepth 100000
open Go Go.Proofs Go.RowKit
abbrev denR := Bool
instance : Inhabited denR := ⟨false⟩
end Go.Proofs.Ythagjhadjpangaa.Cx

/- DieLearned: the closure that goes through pieces at one end; what it says of what Looks says. -/
namespace Go.Proofs.Ythagjhadjpangaa.Cx
set_option linter.unusedVariables false
set_option linter.unusedSimpArgs false
set_option maxRecDepth 100000
set_option maxHeartbeats 4000000
open Go Go.RowKit
section
variable {a0 : Int} {a1 : Bool} {a2 a3 : Int} {a4 : Bool} {a5 a6 a7 a8 : Int} {a9 : Nat} {a10 a11 : Nat → Int} {a12 a13 : Int}
end
end Go.Proofs.Ythagjhadjpangaa.Cx

/- (acme/acmelaw07.Shop).tool as an automaton. Made by tools/cxauto.py. -/
namespace Go.Proofs.Ythagjhadjpangaa.Cx
set_option linter.unusedVariables false
set_option linter.unusedSimpArgs false
set_option maxRecDepth 100000
open Go Go.Proofs Go.RowKit
noncomputable abbrev dtoCode : Code := funcCode Try.f48
inductive dtoN where
  | n0
  | n1 (p0 : Int) (p1 : Nat) (p2 p3 : Nat → Int)
inductive dtoR where
  | r0 (p0 : Bool) (p1 p2 p3 p4 : Int)
  | r1 (p0 : Bool) (p1 p2 p3 p4 : Int) (p5 : Nat) (p6 p7 : Nat → Int)
noncomputable def dtoD0 (a0 : Bool) (a1 a2 : Int) (a3 : Nat) (a4 a5 : Nat → Int) (a6 : Nat) (a7 a8 a9 a10 : Nat → Int) (a11 : Nat) (a12 : Nat → Int) : DD (Lf dtoN dtoR) :=
 .leaf (.next (.n0) [3, 4, 7])

noncomputable def dtoD (a0 : Bool) (a1 a2 : Int) (a3 : Nat) (a4 a5 : Nat → Int) (a6 : Nat) (a7 a8 a9 a10 : Nat → Int) (a11 : Nat) (a12 : Nat → Int) : dtoN → DD (Lf dtoN dtoR)
 | .n0 =>
 let z0 := decide (0 + Int.toNat 0 < a3)
 let z1 := Ar.run .conv .i64 (a4 (0 + Int.toNat 0)) 0
 let z2 := fun i => Ar.run .rem .i64 z1 20
 let z3 := fun i => Ar.run .add .i64 (Ar.run .rem .i64 z1 20) (Ar.run .rem .i64 (Ar.run .conv .i64 (a5 (0 + Int.toNat 0)) 0) 20)
 let z4 := Ar.run .conv .i64 a1 0
 let z5 := Ar.run .rem .i64 (Ar.run .sub .i64 0 z4) 20
 let z6 := Ar.run .quo .i64 z4 16
 let z7 := Ar.run .conv .i64 a2 0
 let z8 := Ar.run .rem .i64 (Ar.run .sub .i64 0 z7) 10
 let z9 := Ar.run .quo .i64 z7 32
 .ask (true)
   (.ask (Cm.run .lss 0 (↑a3 : Int))
   (.must (true)
   (.must (decide (0 < (↑a3 : Int)))
   (.must z0
   (.leaf (.next (.n1 1 1 z2 z3) [3, 4, 5, 9])))))
   (.leaf (.next (.n1 1 1 (fun i => 0) (fun i => 0)) [3, 4, 5, 9])))
   (.ask (Cm.run .lss 0 (↑a3 : Int))
   (.ask (true)
   (.ask (Cm.run .lss 0 (↑a3 : Int))
   (.must (true)
   (.must (decide (0 < (↑a3 : Int)))
   (.must z0
   (.leaf (.next (.n1 1 1 z2 z3) [3, 4, 5, 9])))))
   (.leaf (.next (.n1 1 1 (fun i => 0) (fun i => 0)) [3, 4, 5, 9])))
   (.leaf (.done (.r0 a0 z5 z6 z8 z9) [])))
   (.leaf (.done (.r0 a0 z5 z6 z8 z9) [])))
 | .n1 p0 p1 p2 p3 =>
 let z0 := decide (0 ≤ p0)
 let z1 := decide (0 + Int.toNat p0 < a3)
 let z2 := decide (0 + p1 ≤ p1)
 let z3 := decide (p1 + 1 ≤ 10000)
 let z4 := Ar.run .add .i64 p0 1
 let z5 := Ar.run .conv .i64 (a4 (0 + Int.toNat p0)) 0
 let z6 := fun i => bif Nat.blt i p1 then p2 (0 + i) else Ar.run .rem .i64 z5 20
 let z7 := fun i => bif Nat.blt i p1 then p3 (0 + i) else Ar.run .add .i64 (Ar.run .rem .i64 z5 20) (Ar.run .rem .i64 (Ar.run .conv .i64 (a5 (0 + Int.toNat p0)) 0) 20)
 let z8 := fun i => bif Nat.blt i p1 then p2 (0 + i) else 0
 let z9 := fun i => bif Nat.blt i p1 then p3 (0 + i) else 0
 let z10 := Ar.run .conv .i64 a1 0
 let z11 := Ar.run .rem .i64 (Ar.run .sub .i64 0 z10) 20
 let z12 := Ar.run .quo .i64 z10 16
 let z13 := Ar.run .conv .i64 a2 0
 let z14 := Ar.run .rem .i64 (Ar.run .sub .i64 0 z13) 10
 let z15 := Ar.run .quo .i64 z13 32
 .ask (Cm.run .eql p0 0)
   (.ask (Cm.run .lss p0 (↑a3 : Int))
   (.must z0
   (.must (decide (p0 < (↑a3 : Int)))
   (.must z1
   (.must z2
   (.must z3
   (.leaf (.next (.n1 z4 (p1 + 1) z6 z7) [3, 4, 5, 10])))))))
   (.must z2
   (.must z3
   (.leaf (.next (.n1 z4 (p1 + 1) z8 z9) [3, 4, 5, 10])))))
   (.ask (Cm.run .lss p0 (↑a3 : Int))
   (.ask (Cm.run .lss p0 3)
   (.ask (Cm.run .lss p0 (↑a3 : Int))
   (.must z0
   (.must (decide (p0 < (↑a3 : Int)))
   (.must z1
   (.must z2
   (.must z3
   (.leaf (.next (.n1 z4 (p1 + 1) z6 z7) [3, 4, 5, 10])))))))
   (.must z2
   (.must z3
   (.leaf (.next (.n1 z4 (p1 + 1) z8 z9) [3, 4, 5, 10])))))
   (.leaf (.done (.r1 a0 z11 z12 z14 z15 p1 (fun i => p2 i) (fun i => p3 i)) [6])))
   (.leaf (.done (.r1 a0 z11 z12 z14 z15 p1 (fun i => p2 i) (fun i => p3 i)) [6])))

noncomputable def dtoA (a0 : Bool) (a1 a2 : Int) (a3 : Nat) (a4 a5 : Nat → Int) (a6 : Nat) (a7 a8 a9 a10 : Nat → Int) (a11 : Nat) (a12 : Nat → Int) : AF dtoN dtoR where
  code := dtoCode
  base := 3
  nt := 79
  m := 400
  un := []
  W := []
  h0 := [(0, ⟨.arg a3 2 (fun i => [.int .u8 (.x (a4 i)), .int .u8 (.x (a5 i))]) (fun _ => ⟨rfl, rfl⟩), 2, true, none⟩), (1, ⟨.arg a6 4 (fun i => [.int .u8 (.x (a7 i)), .int .u8 (.x (a8 i)), .int .u8 (.x (a9 i)), .int .u8 (.x (a10 i))]) (fun _ => ⟨rfl, rfl⟩), 4, true, none⟩), (2, ⟨.arg a11 1 (fun i => [.int .u8 (.x (a12 i))]) (fun _ => ⟨rfl, rfl⟩), 1, true, none⟩)]
  args := [.agg [.bool (.x a0), .int .u8 (.x a1), .int .u8 (.x a2), .sla 0 2 0 a3, .sla 1 4 0 a6, .sla 2 1 0 a11]]
  res := (Try.f48).results.toList
  path := fun a => match a with
   | .n0 => [1, 1, 0, 1, 0]
   | .n1 p0 p1 p2 p3 => [1, 1, 0, 1, 0]
  pd := fun a => match a with
   | .n0 => ⟨[(1, .ptr (some (3, 0))), (2, .ptr (some (4, 0))), (3, .ptr (some (5, 0))), (4, .int .i64 (.x 0)), (26, .ptr (some (3, 1)))], [(3, ⟨.lit [.bool (.x a0), .int .u8 (.x a1), .int .u8 (.x a2), .sla 0 2 0 a3, .sla 1 4 0 a6, .sla 2 1 0 a11], 0, true, none⟩), (4, ⟨.lit [.bool (.x false), .int .i64 (.x 0), .int .i64 (.x 0), .int .i64 (.x 0), .int .i64 (.x 0), .slc none 0 0], 0, true, none⟩), (5, ⟨.lit [.bool (.x a0), .int .i64 (.x (Ar.run .rem .i64 (Ar.run .sub .i64 0 (Ar.run .conv .i64 a1 0)) 20)), .int .i64 (.x (Ar.run .quo .i64 (Ar.run .conv .i64 a1 0) 16)), .int .i64 (.x (Ar.run .rem .i64 (Ar.run .sub .i64 0 (Ar.run .conv .i64 a2 0)) 10)), .int .i64 (.x (Ar.run .quo .i64 (Ar.run .conv .i64 a2 0) 32)), .slc none 0 0], 0, true, none⟩)], 6, []⟩
   | .n1 p0 p1 p2 p3 => ⟨[(1, .ptr (some (3, 0))), (2, .ptr (some (4, 0))), (3, .ptr (some (5, 0))), (4, .int .i64 (.x p0)), (26, .ptr (some (3, 1)))], [(3, ⟨.lit [.bool (.x a0), .int .u8 (.x a1), .int .u8 (.x a2), .sla 0 2 0 a3, .sla 1 4 0 a6, .sla 2 1 0 a11], 0, true, none⟩), (4, ⟨.lit [.bool (.x false), .int .i64 (.x 0), .int .i64 (.x 0), .int .i64 (.x 0), .int .i64 (.x 0), .slc none 0 0], 0, true, none⟩), (5, ⟨.lit [.bool (.x a0), .int .i64 (.x (Ar.run .rem .i64 (Ar.run .sub .i64 0 (Ar.run .conv .i64 a1 0)) 20)), .int .i64 (.x (Ar.run .quo .i64 (Ar.run .conv .i64 a1 0) 16)), .int .i64 (.x (Ar.run .rem .i64 (Ar.run .sub .i64 0 (Ar.run .conv .i64 a2 0)) 10)), .int .i64 (.x (Ar.run .quo .i64 (Ar.run .conv .i64 a2 0) 32)), .slx 6 2 0 p1 p1], 0, true, none⟩), (6, ⟨.rows p1 2 (fun i => [.int .i64 (.x (p2 i)), .int .i64 (.x (p3 i))]) (fun _ => ⟨rfl, rfl⟩), 2, true, none⟩)], 7, []⟩
  D0 := dtoD0 a0 a1 a2 a3 a4 a5 a6 a7 a8 a9 a10 a11 a12
  D := dtoD a0 a1 a2 a3 a4 a5 a6 a7 a8 a9 a10 a11 a12
  rc := (fun v => match v with
 | .r0 p0 p1 p2 p3 p4 => .agg [.bool (.x p0), .int .i64 (.x p1), .int .i64 (.x p2), .int .i64 (.x p3), .int .i64 (.x p4), .slc none 0 0]
 | .r1 p0 p1 p2 p3 p4 p5 p6 p7 => .agg [.bool (.x p0), .int .i64 (.x p1), .int .i64 (.x p2), .int .i64 (.x p3), .int .i64 (.x p4), .slx 3 2 0 p5 p5])
  rh := (fun v => match v with
 | .r0 p0 p1 p2 p3 p4 => []
 | .r1 p0 p1 p2 p3 p4 p5 p6 p7 => [(3, ⟨.rows p5 2 (fun i => [.int .i64 (.x (p6 i)), .int .i64 (.x (p7 i))]) (fun _ => ⟨rfl, rfl⟩), 2, true, none⟩)])
  rn := (fun v => match v with
 | .r0 p0 p1 p2 p3 p4 => 3
 | .r1 p0 p1 p2 p3 p4 p5 p6 p7 => 4)
  rx := (fun v => match v with
 | .r0 p0 p1 p2 p3 p4 => []
 | .r1 p0 p1 p2 p3 p4 p5 p6 p7 => [])
  rgo := (fun _ => none)
theorem dtostart (a0 : Bool) (a1 a2 : Int) (a3 : Nat) (a4 a5 : Nat → Int) (a6 : Nat) (a7 a8 a9 a10 : Nat → Int) (a11 : Nat) (a12 : Nat → Int) : AF.edgeOk (dtoA a0 a1 a2 a3 a4 a5 a6 a7 a8 a9 a10 a11 a12) (ctxOf Try.prog memo0) (dtoD0 a0 a1 a2 a3 a4 a5 a6 a7 a8 a9 a10 a11 a12) (AF.run0 (dtoA a0 a1 a2 a3 a4 a5 a6 a7 a8 a9 a10 a11 a12) (ctxOf Try.prog memo0)) := by unfold AF.edgeOk; kernel_rfl
theorem dtonode0 (a0 : Bool) (a1 a2 : Int) (a3 : Nat) (a4 a5 : Nat → Int) (a6 : Nat) (a7 a8 a9 a10 : Nat → Int) (a11 : Nat) (a12 : Nat → Int) : AF.edgeOk (dtoA a0 a1 a2 a3 a4 a5 a6 a7 a8 a9 a10 a11 a12) (ctxOf Try.prog memo0) (dtoD a0 a1 a2 a3 a4 a5 a6 a7 a8 a9 a10 a11 a12 (.n0)) (AF.runN (dtoA a0 a1 a2 a3 a4 a5 a6 a7 a8 a9 a10 a11 a12) (ctxOf Try.prog memo0) (.n0)) := by unfold AF.edgeOk; kernel_rfl
theorem dtonode1 (a0 : Bool) (a1 a2 : Int) (a3 : Nat) (a4 a5 : Nat → Int) (a6 : Nat) (a7 a8 a9 a10 : Nat → Int) (a11 : Nat) (a12 : Nat → Int) (p0 : Int) (p1 : Nat) (p2 p3 : Nat → Int) : AF.edgeOk (dtoA a0 a1 a2 a3 a4 a5 a6 a7 a8 a9 a10 a11 a12) (ctxOf Try.prog memo0) (dtoD a0 a1 a2 a3 a4 a5 a6 a7 a8 a9 a10 a11 a12 (.n1 p0 p1 p2 p3)) (AF.runN (dtoA a0 a1 a2 a3 a4 a5 a6 a7 a8 a9 a10 a11 a12) (ctxOf Try.prog memo0) (.n1 p0 p1 p2 p3)) := by unfold AF.edgeOk; kernel_rfl
theorem dtook (a0 : Bool) (a1 a2 : Int) (a3 : Nat) (a4 a5 : Nat → Int) (a6 : Nat) (a7 a8 a9 a10 : Nat → Int) (a11 : Nat) (a12 : Nat → Int) : (dtoA a0 a1 a2 a3 a4 a5 a6 a7 a8 a9 a10 a11 a12).Ok Try.prog (ctxOf Try.prog memo0) where
  regs := by kernel_rfl
  h0 := by kernel_rfl
  start := dtostart a0 a1 a2 a3 a4 a5 a6 a7 a8 a9 a10 a11 a12
  node := fun a _ => match a with
   | .n0 => dtonode0 a0 a1 a2 a3 a4 a5 a6 a7 a8 a9 a10 a11 a12
   | .n1 p0 p1 p2 p3 => dtonode1 a0 a1 a2 a3 a4 a5 a6 a7 a8 a9 a10 a11 a12 p0 p1 p2 p3
  pd := fun a => match a with
   | .n0 => ⟨(fa_cons rfl (fa_cons rfl (fa_cons rfl (fa_cons rfl (fa_cons rfl fa_nil))))), (fa_cons ⟨.inl (Nat.le_of_ble_eq_true rfl), rfl, rfl⟩ (fa_cons ⟨.inl (Nat.le_of_ble_eq_true rfl), rfl, rfl⟩ (fa_cons ⟨.inl (Nat.le_of_ble_eq_true rfl), rfl, rfl⟩ fa_nil))), fa_nil, rfl⟩
   | .n1 p0 p1 p2 p3 => ⟨(fa_cons rfl (fa_cons rfl (fa_cons rfl (fa_cons rfl (fa_cons rfl fa_nil))))), (fa_cons ⟨.inl (Nat.le_of_ble_eq_true rfl), rfl, rfl⟩ (fa_cons ⟨.inl (Nat.le_of_ble_eq_true rfl), rfl, rfl⟩ (fa_cons ⟨.inl (Nat.le_of_ble_eq_true rfl), rfl, rfl⟩ (fa_cons ⟨.inl (Nat.le_of_ble_eq_true rfl), (fun _ => rfl), rfl⟩ fa_nil)))), fa_nil, rfl⟩
  le := fun a => match a with
   | .n0 => Nat.le_of_ble_eq_true rfl
   | .n1 p0 p1 p2 p3 => Nat.le_of_ble_eq_true rfl
  rd := fun v => match v with
   | .r0 p0 p1 p2 p3 p4 => ⟨⟨fa_nil, fa_nil, fa_nil, rfl⟩, rfl⟩
   | .r1 p0 p1 p2 p3 p4 p5 p6 p7 => ⟨⟨fa_nil, (fa_cons ⟨.inl (Nat.le_of_ble_eq_true rfl), (fun _ => rfl), rfl⟩ fa_nil), fa_nil, rfl⟩, rfl⟩
  wb := rfl
theorem dtohR {ρ : Env} (a0 : Bool) (a1 a2 : Int) (a3 : Nat) (a4 a5 : Nat → Int) (a6 : Nat) (a7 a8 a9 a10 : Nat → Int) (a11 : Nat) (a12 : Nat → Int) (hM : MemoOk Try.prog (ctxOf Try.prog memo0) ρ) : ∀ X a q n D, FxOk ρ X → X.base = (dtoA a0 a1 a2 a3 a4 a5 a6 a7 a8 a9 a10 a11 a12).base → X.nt = (dtoA a0 a1 a2 a3 a4 a5 a6 a7 a8 a9 a10 a11 a12).nt → X.W = (dtoA a0 a1 a2 a3 a4 a5 a6 a7 a8 a9 a10 a11 a12).W → (dtoA a0 a1 a2 a3 a4 a5 a6 a7 a8 a9 a10 a11 a12).rgo a = some q → q n = some D → (dtoA a0 a1 a2 a3 a4 a5 a6 a7 a8 a9 a10 a11 a12).RangeOk Try.prog ρ X a D := AF.noRange rfl
theorem dtoctr {ρ : Env} (a0 : Bool) (a1 a2 : Int) (a3 : Nat) (a4 a5 : Nat → Int) (a6 : Nat) (a7 a8 a9 a10 : Nat → Int) (a11 : Nat) (a12 : Nat → Int) {n : Nat} {v : dtoR} (hM : MemoOk Try.prog (ctxOf Try.prog memo0) ρ) (hv : (dtoA a0 a1 a2 a3 a4 a5 a6 a7 a8 a9 a10 a11 a12).run n = some v) :
    Ctr Try.prog ρ 48 (dtoA a0 a1 a2 a3 a4 a5 a6 a7 a8 a9 a10 a11 a12).args (dtoA a0 a1 a2 a3 a4 a5 a6 a7 a8 a9 a10 a11 a12).H0 (dtoA a0 a1 a2 a3 a4 a5 a6 a7 a8 a9 a10 a11 a12).base (dtoA a0 a1 a2 a3 a4 a5 a6 a7 a8 a9 a10 a11 a12).W ((dtoA a0 a1 a2 a3 a4 a5 a6 a7 a8 a9 a10 a11 a12).rc v) (putH (dtoA a0 a1 a2 a3 a4 a5 a6 a7 a8 a9 a10 a11 a12).H0 ((dtoA a0 a1 a2 a3 a4 a5 a6 a7 a8 a9 a10 a11 a12).rh v ++ (dtoA a0 a1 a2 a3 a4 a5 a6 a7 a8 a9 a10 a11 a12).rx v)) ((dtoA a0 a1 a2 a3 a4 a5 a6 a7 a8 a9 a10 a11 a12).rn v) :=
  AF.ctr try_ok hM (dtook a0 a1 a2 a3 a4 a5 a6 a7 a8 a9 a10 a11 a12) (fn := Try.f48) Try.func48 rfl rfl (Nat.le_of_ble_eq_true rfl) rfl (dtohR a0 a1 a2 a3 a4 a5 a6 a7 a8 a9 a10 a11 a12 hM) hv
theorem dtomem {ρ : Env} : MemoOk Try.prog (ctxOf Try.prog memo0) ρ := memo0_ok
abbrev dtoP : List AQ := [.agg [.bool, .int .u8, .int .u8, .rows [some .u8, some .u8], .rows [some .u8, some .u8, some .u8, some .u8], .rows [some .u8]]]
noncomputable def dtoF (v : AW) : AF dtoN dtoR := dtoA (v.b.getD 0 false) (v.i.getD 0 0) (v.i.getD 1 0) (v.t.getD 0 .none).n ((v.t.getD 0 .none).c 0) ((v.t.getD 0 .none).c 1) (v.t.getD 1 .none).n ((v.t.getD 1 .none).c 0) ((v.t.getD 1 .none).c 1) ((v.t.getD 1 .none).c 2) ((v.t.getD 1 .none).c 3) (v.t.getD 2 .none).n ((v.t.getD 2 .none).c 0)
def dtow0 : dtoR → Bool
  | .r0 p0 p1 p2 p3 p4 => p0
  | .r1 p0 p1 p2 p3 p4 p5 p6 p7 => p0
def dtow1 : dtoR → Int
  | .r0 p0 p1 p2 p3 p4 => p1
  | .r1 p0 p1 p2 p3 p4 p5 p6 p7 => p1
def dtow2 : dtoR → Int
  | .r0 p0 p1 p2 p3 p4 => p2
  | .r1 p0 p1 p2 p3 p4 p5 p6 p7 => p2
def dtow3 : dtoR → Int
  | .r0 p0 p1 p2 p3 p4 => p3
  | .r1 p0 p1 p2 p3 p4 p5 p6 p7 => p3
def dtow4 : dtoR → Int
  | .r0 p0 p1 p2 p3 p4 => p4
  | .r1 p0 p1 p2 p3 p4 p5 p6 p7 => p4
def dtow5 : dtoR → Nat
  | .r0 p0 p1 p2 p3 p4 => 0
  | .r1 p0 p1 p2 p3 p4 p5 p6 p7 => p5
def dtow6 : dtoR → (Nat → Int)
  | .r0 p0 p1 p2 p3 p4 => fun _ => 0
  | .r1 p0 p1 p2 p3 p4 p5 p6 p7 => p6
def dtow7 : dtoR → (Nat → Int)
  | .r0 p0 p1 p2 p3 p4 => fun _ => 0
  | .r1 p0 p1 p2 p3 p4 p5 p6 p7 => p7
noncomputable def dtoW : dtoR → CV := fun v => .agg [.bool (.x ((dtow0 v))), .int .i64 (.x ((dtow1 v))), .int .i64 (.x ((dtow2 v))), .int .i64 (.x ((dtow3 v))), .int .i64 (.x ((dtow4 v))), .sla 3 2 0 ((dtow5 v))]
noncomputable def dtoH : dtoR → List (Nat × Blk) := fun v => [(3, ⟨.rows ((dtow5 v)) 2 (fun i => [.int .i64 (.x ((dtow6 v) i)), .int .i64 (.x ((dtow7 v) i))]) (fun _ => ⟨rfl, rfl⟩), 2, true, none⟩)]
instance : Inhabited dtoR := ⟨.r0 false 0 0 0 0⟩
theorem dtoknown {ρ : Env} (hM : MemoOk Try.prog (ctxOf Try.prog memo0) ρ) : KnownS Try.prog ρ 48 dtoP dtoF dtoW dtoH 4 where
  fn := ⟨Try.f48, Try.func48, rfl⟩
  le := Nat.le_of_ble_eq_true rfl
  full := fun r => rfl
  rg := fun r => rfl
  hg := fun r => (fa_cons ⟨fun _ => rfl, rfl⟩ fa_nil)
  ctr := fun v n r h => match r, h with
    | .r0 p0 p1 p2 p3 p4, h => Ctr.weaken (dtoctr (v.b.getD 0 false) (v.i.getD 0 0) (v.i.getD 1 0) (v.t.getD 0 .none).n ((v.t.getD 0 .none).c 0) ((v.t.getD 0 .none).c 1) (v.t.getD 1 .none).n ((v.t.getD 1 .none).c 0) ((v.t.getD 1 .none).c 1) ((v.t.getD 1 .none).c 2) ((v.t.getD 1 .none).c 3) (v.t.getD 2 .none).n ((v.t.getD 2 .none).c 0) hM h) (Nat.le_of_ble_eq_true rfl) (Nat.le_of_ble_eq_true rfl) (fun σ => (fun _ h => VR.agg_imp (VRl.cons_imp (fun _ h => h) (VRl.cons_imp (fun _ h => h) (VRl.cons_imp (fun _ h => h) (VRl.cons_imp (fun _ h => h) (VRl.cons_imp (fun _ h => h) (VRl.cons_imp (fun _ h => h.nil_sla) VRl.nil_imp)))))) h)) (fun b h1 h2 => absurd (Nat.lt_of_le_of_lt h1 h2) (Nat.lt_irrefl _))
    | .r1 p0 p1 p2 p3 p4 p5 p6 p7, h => Ctr.weaken (dtoctr (v.b.getD 0 false) (v.i.getD 0 0) (v.i.getD 1 0) (v.t.getD 0 .none).n ((v.t.getD 0 .none).c 0) ((v.t.getD 0 .none).c 1) (v.t.getD 1 .none).n ((v.t.getD 1 .none).c 0) ((v.t.getD 1 .none).c 1) ((v.t.getD 1 .none).c 2) ((v.t.getD 1 .none).c 3) (v.t.getD 2 .none).n ((v.t.getD 2 .none).c 0) hM h) (Nat.le_of_ble_eq_true rfl) (Nat.le_of_ble_eq_true rfl) (fun σ => (fun _ h => VR.agg_imp (VRl.cons_imp (fun _ h => h) (VRl.cons_imp (fun _ h => h) (VRl.cons_imp (fun _ h => h) (VRl.cons_imp (fun _ h => h) (VRl.cons_imp (fun _ h => h) (VRl.cons_imp (fun _ h => h.as_sla) VRl.nil_imp)))))) h)) (fun b h1 h2 => rfl)
end Go.Proofs.Ythagjhadjpangaa.Cx

/- DieLearned: the tool that is made. -/
namespace Go.Proofs.Ythagjhadjpangaa.Cx
set_option linter.unusedVariables false
set_option linter.unusedSimpArgs false
set_option maxRecDepth 100000
set_option maxHeartbeats 4000000
open Go Go.RowKit
theorem conv_byte {x : Int} (h : 0 ≤ x ∧ x ≤ 255) : Ar.run .conv .i64 x 0 = x := IntWalk.i64_in _ (by omega)
theorem rem_pos {x k : Int} (h : 0 ≤ x) (hk : 0 < k) : 0 ≤ Ar.run .rem .i64 x k ∧ Ar.run .rem .i64 x k < k ∧ Ar.run .rem .i64 x k ≤ x := by
  show 0 ≤ x.tmod k ∧ x.tmod k < k ∧ x.tmod k ≤ x
  refine ⟨Int.tmod_nonneg _ h, Int.tmod_lt_of_pos _ hk, ?_⟩
  rw [Int.tmod_eq_emod_of_nonneg h]
  have := Int.mul_ediv_add_emod x k
  have h2 : 0 ≤ k * (x / k) := Int.mul_nonneg (by omega) (Int.ediv_nonneg h (by omega))
  omega
theorem rem_neg {x k : Int} (h : 0 ≤ x) (hk : 0 < k) : -k < Ar.run .rem .i64 (0 - x) k ∧ Ar.run .rem .i64 (0 - x) k ≤ 0 := by
  show -k < (0 - x).tmod k ∧ (0 - x).tmod k ≤ 0
  rw [Int.zero_sub, Int.neg_tmod]
  have h1 := Int.tmod_nonneg k h
  have h2 := Int.tmod_lt_of_pos x hk
  omega
theorem quo_byte {x : Int} {k : Int} (h : 0 ≤ x ∧ x ≤ 255) (hk : 1 ≤ k) : 0 ≤ Ar.run .quo .i64 x k ∧ Ar.run .quo .i64 x k ≤ x / k ∧ x / k ≤ Ar.run .quo .i64 x k := by
  have e : x.tdiv k = x / k := Int.tdiv_eq_ediv_of_nonneg h.1
  have h1 : 0 ≤ x / k := Int.ediv_nonneg h.1 (by omega)
  have h2 : x / k ≤ x := Int.ediv_le_self k h.1
  have e2 : Ar.run .quo .i64 x k = x / k := by rw [arQuo (by rw [e]; omega), e]
  rw [e2]
  exact ⟨h1, Int.le_refl _, Int.le_refl _⟩
def RowOk (l h : Int) : Prop := 0 ≤ l ∧ l ≤ h ∧ h ≤ 38
def TlOk : dtoR → Prop
  | .r0 _ _ _ _ _ => False
  | .r1 p0 p1 p2 p3 p4 p5 p6 p7 => (-19 ≤ p1 ∧ p1 ≤ 0) ∧ (0 ≤ p2 ∧ p2 ≤ 15) ∧ (-9 ≤ p3 ∧ p3 ≤ 0) ∧ (0 ≤ p4 ∧ p4 ≤ 7) ∧ (1 ≤ p5 ∧ p5 ≤ 3) ∧ ∀ i : Nat, i < p5 → RowOk (p6 i) (p7 i)
section
variable {a0 : Bool} {a1 a2 : Int} {a3 : Nat} {a4 a5 : Nat → Int} {a6 : Nat} {a7 a8 a9 a10 : Nat → Int} {a11 : Nat} {a12 : Nat → Int}
theorem dto_val (h1 : 0 ≤ a1 ∧ a1 ≤ 255) (h2 : 0 ≤ a2 ∧ a2 ≤ 255) (h4 : ∀ i, 0 ≤ a4 i ∧ a4 i ≤ 255) (h5 : ∀ i, 0 ≤ a5 i ∧ a5 i ≤ 255) : AF.fin (dtoA a0 a1 a2 a3 a4 a5 a6 a7 a8 a9 a10 a11 a12) = true ∧ TlOk (AF.val (dtoA a0 a1 a2 a3 a4 a5 a6 a7 a8 a9 a10 a11 a12)) := by
  have row : ∀ i, RowOk (Ar.run .rem .i64 (Ar.run .conv .i64 (a4 i) 0) 20) (Ar.run .add .i64 (Ar.run .rem .i64 (Ar.run .conv .i64 (a4 i) 0) 20) (Ar.run .rem .i64 (Ar.run .conv .i64 (a5 i) 0) 20)) := fun i => by
    rw [conv_byte (h4 i), conv_byte (h5 i)]
    have r1 := rem_pos (h4 i).1 (show (0 : Int) < 20 by omega)
    have r2 := rem_pos (h5 i).1 (show (0 : Int) < 20 by omega)
    rw [arAdd (by omega)]
    unfold RowOk
    omega
  have zero : RowOk 0 0 := by unfold RowOk; omega
  have ext : ∀ (p : Nat) (c d : Nat → Int) (x y : Int), (∀ i : Nat, i < p → RowOk (c i) (d i)) → RowOk x y → ∀ i : Nat, i < p + 1 → RowOk (bif Nat.blt i p then c i else x) (bif Nat.blt i p then d i else y) := fun p c d x y hc hx i hi => by
    cases hb : Nat.blt i p with
    | true => exact hc i (by simpa [Nat.blt_eq] using hb)
    | false => exact hx
  have done : ∀ (p0 : Bool) (p5 : Nat) (p6 p7 : Nat → Int), (1 ≤ p5 ∧ p5 ≤ 3) → (∀ i : Nat, i < p5 → RowOk (p6 i) (p7 i)) → TlOk (.r1 p0 (Ar.run .rem .i64 (Ar.run .sub .i64 0 (Ar.run .conv .i64 a1 0)) 20) (Ar.run .quo .i64 (Ar.run .conv .i64 a1 0) 16) (Ar.run .rem .i64 (Ar.run .sub .i64 0 (Ar.run .conv .i64 a2 0)) 10) (Ar.run .quo .i64 (Ar.run .conv .i64 a2 0) 32) p5 p6 p7) := fun p0 p5 p6 p7 hp hr => by
    rw [conv_byte h1, conv_byte h2, arSub (a := 0) (b := a1) (by omega), arSub (a := 0) (b := a2) (by omega)]
    have r1 := rem_neg h1.1 (show (0 : Int) < 20 by omega)
    have r2 := rem_neg h2.1 (show (0 : Int) < 10 by omega)
    have q1 := quo_byte h1 (show (1 : Int) ≤ 16 by omega)
    have q2 := quo_byte h2 (show (1 : Int) ≤ 32 by omega)
    exact ⟨by omega, by omega, by omega, by omega, hp, hr⟩
  refine AF.val_sat (E := TlOk)
    (Inv := fun b => match b with | .n0 => True | .n1 p0 p1 p2 p3 => 1 ≤ p0 ∧ p0 ≤ 3 ∧ (p1 : Int) = p0 ∧ ∀ i : Nat, i < p1 → RowOk (p2 i) (p3 i))
    (fun b => match b with | .n0 => 10 | .n1 p0 p1 p2 p3 => (3 - p0).toNat) (fun _ => rfl) (fun a hI => ?_) ?_
  · cases a with
    | n0 =>
      show DD.sat _ _ (dtoD a0 a1 a2 a3 a4 a5 a6 a7 a8 a9 a10 a11 a12 .n0)
      unfold dtoD
      simp only [DD.sat, cmLss, cmLssF, Nat.zero_add, Int.toNat_zero, decide_eq_true_eq]
      refine ⟨fun _ => ⟨fun h => ⟨trivial, h, by omega, ⟨by omega, by omega, by decide, fun i _ => row 0⟩, by decide⟩, fun h => ⟨⟨by omega, by omega, by decide, fun i _ => zero⟩, by decide⟩⟩, fun h => (by cases h)⟩
    | n1 p0 p1 p2 p3 =>
      obtain ⟨g0, g1, g2, g3⟩ := hI
      show DD.sat _ _ (dtoD a0 a1 a2 a3 a4 a5 a6 a7 a8 a9 a10 a11 a12 (.n1 p0 p1 p2 p3))
      unfold dtoD
      have ea : Ar.run .add .i64 p0 1 = p0 + 1 := arAdd (by omega)
      simp only [DD.sat, cmLss, cmLssF, cmEql, cmEqlF, Nat.zero_add, decide_eq_true_eq, ea]
      refine ⟨fun h => by omega, fun _ => ⟨fun h => ⟨fun h3 => ⟨fun _ => ⟨by omega, h, by omega, Nat.le_refl _, by omega, ⟨by omega, by omega, by omega, ext p1 p2 p3 _ _ g3 (row p0.toNat)⟩, by omega⟩, fun h' => by omega⟩, fun h3 => done _ _ _ _ (by omega) g3⟩, fun h => done _ _ _ _ (by omega) g3⟩⟩
  · show True
    trivial
end
end Go.Proofs.Ythagjhadjpangaa.Cx

/- acme/acmelaw07.all as an automaton. Made by tools/cxauto.py. -/
namespace Go.Proofs.Ythagjhadjpangaa.Cx
set_option linter.unusedVariables false
set_option linter.unusedSimpArgs false
set_option maxRecDepth 100000
open Go Go.Proofs Go.RowKit
noncomputable abbrev dalCode : Code := funcCode Try.f50
inductive dalN where
  | n0 (p0 p1 : Int)
abbrev dalR := Int
noncomputable def dalD0 (a0 : Nat) (a1 a2 a3 a4 : Nat → Int) : DD (Lf dalN dalR) :=
 .leaf (.next (.n0 0 0) [])

noncomputable def dalD (a0 : Nat) (a1 a2 a3 a4 : Nat → Int) : dalN → DD (Lf dalN dalR)
 | .n0 p0 p1 =>
 .ask (Cm.run .lss p1 (↑a0 : Int))
   (.must (decide (0 ≤ p1))
   (.must (decide (p1 < (↑a0 : Int)))
   (.must (decide (0 + Int.toNat p1 < a0))
   (.leaf (.next (.n0 (Ar.run .add .i64 p0 (a1 (0 + Int.toNat p1))) (Ar.run .add .i64 p1 1)) [])))))
   (.leaf (.done p0 []))

noncomputable def dalA (a0 : Nat) (a1 a2 a3 a4 : Nat → Int) : AF dalN dalR where
  code := dalCode
  base := 1
  nt := 19
  m := 400
  un := []
  W := []
  h0 := [(0, ⟨.arg a0 4 (fun i => [.int .i64 (.x (a1 i)), .int .i64 (.x (a2 i)), .int .i64 (.x (a3 i)), .int .i64 (.x (a4 i))]) (fun _ => ⟨rfl, rfl⟩), 4, true, none⟩)]
  args := [.sla 0 4 0 a0]
  res := (Try.f50).results.toList
  path := fun a => match a with
   | .n0 p0 p1 => [1, 1, 0, 1, 0]
  pd := fun a => match a with
   | .n0 p0 p1 => ⟨[(0, .sla 0 4 0 a0), (3, .int .i64 (.x p0)), (4, .int .i64 (.x p1))], [], 1, []⟩
  D0 := dalD0 a0 a1 a2 a3 a4
  D := dalD a0 a1 a2 a3 a4
  rc := (fun v => .int .i64 (.x v))
  rh := (fun v => [])
  rn := (fun v => 1)
  rx := (fun v => [])
  rgo := (fun _ => none)
theorem dalstart (a0 : Nat) (a1 a2 a3 a4 : Nat → Int) : AF.edgeOk (dalA a0 a1 a2 a3 a4) (ctxOf Try.prog memo0) (dalD0 a0 a1 a2 a3 a4) (AF.run0 (dalA a0 a1 a2 a3 a4) (ctxOf Try.prog memo0)) := by unfold AF.edgeOk; kernel_rfl
theorem dalnode0 (a0 : Nat) (a1 a2 a3 a4 : Nat → Int) (p0 p1 : Int) : AF.edgeOk (dalA a0 a1 a2 a3 a4) (ctxOf Try.prog memo0) (dalD a0 a1 a2 a3 a4 (.n0 p0 p1)) (AF.runN (dalA a0 a1 a2 a3 a4) (ctxOf Try.prog memo0) (.n0 p0 p1)) := by unfold AF.edgeOk; kernel_rfl
theorem dalok (a0 : Nat) (a1 a2 a3 a4 : Nat → Int) : (dalA a0 a1 a2 a3 a4).Ok Try.prog (ctxOf Try.prog memo0) where
  regs := by kernel_rfl
  h0 := by kernel_rfl
  start := dalstart a0 a1 a2 a3 a4
  node := fun a _ => match a with
   | .n0 p0 p1 => dalnode0 a0 a1 a2 a3 a4 p0 p1
  pd := fun a => match a with
   | .n0 p0 p1 => ⟨(fa_cons rfl (fa_cons rfl (fa_cons rfl fa_nil))), fa_nil, fa_nil, rfl⟩
  le := fun a => match a with
   | .n0 p0 p1 => Nat.le_of_ble_eq_true rfl
  rd := fun v => ⟨⟨fa_nil, fa_nil, fa_nil, rfl⟩, rfl⟩
  wb := rfl
theorem dalhR {ρ : Env} (a0 : Nat) (a1 a2 a3 a4 : Nat → Int) (hM : MemoOk Try.prog (ctxOf Try.prog memo0) ρ) : ∀ X a q n D, FxOk ρ X → X.base = (dalA a0 a1 a2 a3 a4).base → X.nt = (dalA a0 a1 a2 a3 a4).nt → X.W = (dalA a0 a1 a2 a3 a4).W → (dalA a0 a1 a2 a3 a4).rgo a = some q → q n = some D → (dalA a0 a1 a2 a3 a4).RangeOk Try.prog ρ X a D := AF.noRange rfl
theorem dalctr {ρ : Env} (a0 : Nat) (a1 a2 a3 a4 : Nat → Int) {n : Nat} {v : dalR} (hM : MemoOk Try.prog (ctxOf Try.prog memo0) ρ) (hv : (dalA a0 a1 a2 a3 a4).run n = some v) :
    Ctr Try.prog ρ 50 (dalA a0 a1 a2 a3 a4).args (dalA a0 a1 a2 a3 a4).H0 (dalA a0 a1 a2 a3 a4).base (dalA a0 a1 a2 a3 a4).W ((dalA a0 a1 a2 a3 a4).rc v) (putH (dalA a0 a1 a2 a3 a4).H0 ((dalA a0 a1 a2 a3 a4).rh v ++ (dalA a0 a1 a2 a3 a4).rx v)) ((dalA a0 a1 a2 a3 a4).rn v) :=
  AF.ctr try_ok hM (dalok a0 a1 a2 a3 a4) (fn := Try.f50) Try.func50 rfl rfl (Nat.le_of_ble_eq_true rfl) rfl (dalhR a0 a1 a2 a3 a4 hM) hv
theorem dalmem {ρ : Env} : MemoOk Try.prog (ctxOf Try.prog memo0) ρ := memo0_ok
abbrev dalP : List AQ := [.rows [some .i64, some .i64, some .i64, some .i64]]
noncomputable def dalF (v : AW) : AF dalN dalR := dalA (v.t.getD 0 .none).n ((v.t.getD 0 .none).c 0) ((v.t.getD 0 .none).c 1) ((v.t.getD 0 .none).c 2) ((v.t.getD 0 .none).c 3)
noncomputable def dalW : dalR → CV := fun v => .int .i64 (.x v)
noncomputable def dalH : dalR → List (Nat × Blk) := fun v => []
instance : Inhabited dalR := ⟨0⟩
theorem dalknown {ρ : Env} (hM : MemoOk Try.prog (ctxOf Try.prog memo0) ρ) : KnownS Try.prog ρ 50 dalP dalF dalW dalH 1 where
  fn := ⟨Try.f50, Try.func50, rfl⟩
  le := Nat.le_of_ble_eq_true rfl
  full := fun r => rfl
  rg := fun r => rfl
  hg := fun r => fa_nil
  ctr := fun v n r h => dalctr (v.t.getD 0 .none).n ((v.t.getD 0 .none).c 0) ((v.t.getD 0 .none).c 1) ((v.t.getD 0 .none).c 2) ((v.t.getD 0 .none).c 3) hM h
end Go.Proofs.Ythagjhadjpangaa.Cx

/- acme/acmelaw07.order as an automaton. Made by tools/cxauto.py. -/
namespace Go.Proofs.Ythagjhadjpangaa.Cx
set_option linter.unusedVariables false
set_option linter.unusedSimpArgs false
set_option maxRecDepth 100000
open Go Go.Proofs Go.RowKit
abbrev dodR := Int × Int × Int × Int
instance : Inhabited dodR := ⟨(0, 0, 0, 0)⟩
end Go.Proofs.Ythagjhadjpangaa.Cx

/- (acme/acmelaw07.Shop).cuts$1 as an automaton. Made by tools/cxauto.py. -/
namespace Go.Proofs.Ythagjhadjpangaa.Cx
set_option linter.unusedVariables false
set_option linter.unusedSimpArgs false
set_option maxRecDepth 100000
open Go Go.Proofs Go.RowKit
abbrev dpkR := Int
instance : Inhabited dpkR := ⟨0⟩
end Go.Proofs.Ythagjhadjpangaa.Cx

/- (acme/acmelaw07.Shop).cuts as an automaton. Made by tools/cxauto.py. -/
namespace Go.Proofs.Ythagjhadjpangaa.Cx
set_option linter.unusedVariables false
set_option linter.unusedSimpArgs false
set_option maxRecDepth 100000
open Go Go.Proofs Go.RowKit
abbrev dcuR := Bool
instance : Inhabited dcuR := ⟨false⟩
end Go.Proofs.Ythagjhadjpangaa.Cx

/- (acme/acmelaw07.Shop).orders as an automaton. Made by tools/cxauto.py. -/
namespace Go.Proofs.Ythagjhadjpangaa.Cx
set_option linter.unusedVariables false
set_option linter.unusedSimpArgs false
set_option maxRecDepth 100000
open Go Go.Proofs Go.RowKit
noncomputable abbrev dosCode : Code := funcCode Try.f49
inductive dosN where
  | n0 (p0 : Int)
  | n1 (p0 : Nat) (p1 p2 : Int) (p3 p4 p5 p6 : Nat → Int)
inductive dosR where
  | r0
  | r1 (p0 : Nat) (p1 p2 p3 p4 : Nat → Int)
noncomputable def dosD0 (a0 : Bool) (a1 a2 : Int) (a3 : Nat) (a4 a5 : Nat → Int) (a6 : Nat) (a7 a8 a9 a10 : Nat → Int) (a11 : Nat) (a12 : Nat → Int) : DD (Lf dosN dosR) :=
 let z0 := fun i => [CV.int IntKind.u8 (IE.x (a4 (0 + i))), CV.int IntKind.u8 (IE.x (a5 (0 + i)))]
 let z1 := fun i => [CV.int IntKind.u8 (IE.x (a7 (0 + i))), CV.int IntKind.u8 (IE.x (a8 (0 + i))), CV.int IntKind.u8 (IE.x (a9 (0 + i))), CV.int IntKind.u8 (IE.x (a10 (0 + i)))]
 let z2 := fun i => [CV.int IntKind.u8 (IE.x (a12 (0 + i)))]
 let z3 := dtoA a0 a1 a2 a3 (fun i => a4 (0 + i)) (fun i => a5 (0 + i)) a6 (fun i => a7 (0 + i)) (fun i => a8 (0 + i)) (fun i => a9 (0 + i)) (fun i => a10 (0 + i)) a11 (fun i => a12 (0 + i))
 .must (decide (0 + a3 ≤ a3))
   (.must (ShapeOk [some IntKind.u8, some IntKind.u8] (tabOf a3 z0) z0)
   (.must (decide (0 + a6 ≤ a6))
   (.must (ShapeOk [some IntKind.u8, some IntKind.u8, some IntKind.u8, some IntKind.u8] (tabOf a6 z1) z1)
   (.must (decide (0 + a11 ≤ a11))
   (.must (ShapeOk [some IntKind.u8] (tabOf a11 z2) z2)
   (.must (AF.fin z3)
   (.leaf (.next (.n0 (↑(dtow5 (AF.val z3)))) [3, 4]))))))))

noncomputable def dosD (a0 : Bool) (a1 a2 : Int) (a3 : Nat) (a4 a5 : Nat → Int) (a6 : Nat) (a7 a8 a9 a10 : Nat → Int) (a11 : Nat) (a12 : Nat → Int) : dosN → DD (Lf dosN dosR)
 | .n0 p0 =>
 let z0 := decide (0 + Int.toNat 0 < a6)
 let z1 := Cm.run .neq p0 0
 let z2 := fun i => Ar.run .add .i64 1 (Ar.run .rem .i64 (Ar.run .conv .i64 (a7 (0 + Int.toNat 0)) 0) 30)
 let z3 := fun i => Ar.run .rem .i64 (Ar.run .conv .i64 (a8 (0 + Int.toNat 0)) 0) p0
 let z4 := Ar.run .rem .i64 (Ar.run .conv .i64 (a9 (0 + Int.toNat 0)) 0) 60
 let z5 := fun i => Ar.run .add .i64 10000 z4
 let z6 := fun i => Ar.run .add .i64 (Ar.run .add .i64 10000 z4) (Ar.run .conv .i64 (a10 (0 + Int.toNat 0)) 0)
 let z7 := fun i => Ar.run .rem .i64 0 p0
 .ask (true)
   (.ask (Cm.run .lss 0 (↑a6 : Int))
   (.must (true)
   (.must (decide (0 < (↑a6 : Int)))
   (.must z0
   (.must z1
   (.leaf (.next (.n1 1 p0 1 z2 z3 z5 z6) [3, 8]))))))
   (.must z1
   (.leaf (.next (.n1 1 p0 1 (fun i => 4) z7 (fun i => 10040) (fun i => 10240)) [3, 8]))))
   (.ask (Cm.run .lss 0 (↑a6 : Int))
   (.ask (true)
   (.ask (Cm.run .lss 0 (↑a6 : Int))
   (.must (true)
   (.must (decide (0 < (↑a6 : Int)))
   (.must z0
   (.must z1
   (.leaf (.next (.n1 1 p0 1 z2 z3 z5 z6) [3, 8]))))))
   (.must z1
   (.leaf (.next (.n1 1 p0 1 (fun i => 4) z7 (fun i => 10040) (fun i => 10240)) [3, 8]))))
   (.leaf (.done (.r0) [4])))
   (.leaf (.done (.r0) [4])))
 | .n1 p0 p1 p2 p3 p4 p5 p6 =>
 let z0 := decide (0 ≤ p2)
 let z1 := decide (0 + Int.toNat p2 < a6)
 let z2 := Cm.run .neq p1 0
 let z3 := decide (0 + p0 ≤ p0)
 let z4 := decide (p0 + 1 ≤ 10000)
 let z5 := Ar.run .add .i64 p2 1
 let z6 := fun i => bif Nat.blt i p0 then p3 (0 + i) else Ar.run .add .i64 1 (Ar.run .rem .i64 (Ar.run .conv .i64 (a7 (0 + Int.toNat p2)) 0) 30)
 let z7 := fun i => bif Nat.blt i p0 then p4 (0 + i) else Ar.run .rem .i64 (Ar.run .conv .i64 (a8 (0 + Int.toNat p2)) 0) p1
 let z8 := Ar.run .rem .i64 (Ar.run .conv .i64 (a9 (0 + Int.toNat p2)) 0) 60
 let z9 := fun i => bif Nat.blt i p0 then p5 (0 + i) else Ar.run .add .i64 10000 z8
 let z10 := fun i => bif Nat.blt i p0 then p6 (0 + i) else Ar.run .add .i64 (Ar.run .add .i64 10000 z8) (Ar.run .conv .i64 (a10 (0 + Int.toNat p2)) 0)
 let z11 := fun i => bif Nat.blt i p0 then p3 (0 + i) else 4
 let z12 := fun i => bif Nat.blt i p0 then p4 (0 + i) else Ar.run .rem .i64 0 p1
 let z13 := fun i => bif Nat.blt i p0 then p5 (0 + i) else 10040
 let z14 := fun i => bif Nat.blt i p0 then p6 (0 + i) else 10240
 .ask (Cm.run .eql p2 0)
   (.ask (Cm.run .lss p2 (↑a6 : Int))
   (.must z0
   (.must (decide (p2 < (↑a6 : Int)))
   (.must z1
   (.must z2
   (.must z3
   (.must z4
   (.leaf (.next (.n1 (p0 + 1) p1 z5 z6 z7 z9 z10) [3, 8]))))))))
   (.must z2
   (.must z3
   (.must z4
   (.leaf (.next (.n1 (p0 + 1) p1 z5 z11 z12 z13 z14) [3, 8]))))))
   (.ask (Cm.run .lss p2 (↑a6 : Int))
   (.ask (Cm.run .lss p2 5)
   (.ask (Cm.run .lss p2 (↑a6 : Int))
   (.must z0
   (.must (decide (p2 < (↑a6 : Int)))
   (.must z1
   (.must z2
   (.must z3
   (.must z4
   (.leaf (.next (.n1 (p0 + 1) p1 z5 z6 z7 z9 z10) [3, 8]))))))))
   (.must z2
   (.must z3
   (.must z4
   (.leaf (.next (.n1 (p0 + 1) p1 z5 z11 z12 z13 z14) [3, 8]))))))
   (.leaf (.done (.r1 p0 (fun i => p3 i) (fun i => p4 i) (fun i => p5 i) (fun i => p6 i)) [4])))
   (.leaf (.done (.r1 p0 (fun i => p3 i) (fun i => p4 i) (fun i => p5 i) (fun i => p6 i)) [4])))

noncomputable def dosA (a0 : Bool) (a1 a2 : Int) (a3 : Nat) (a4 a5 : Nat → Int) (a6 : Nat) (a7 a8 a9 a10 : Nat → Int) (a11 : Nat) (a12 : Nat → Int) : AF dosN dosR where
  code := dosCode
  base := 3
  nt := 66
  m := 400
  un := []
  W := []
  h0 := [(0, ⟨.arg a3 2 (fun i => [.int .u8 (.x (a4 i)), .int .u8 (.x (a5 i))]) (fun _ => ⟨rfl, rfl⟩), 2, true, none⟩), (1, ⟨.arg a6 4 (fun i => [.int .u8 (.x (a7 i)), .int .u8 (.x (a8 i)), .int .u8 (.x (a9 i)), .int .u8 (.x (a10 i))]) (fun _ => ⟨rfl, rfl⟩), 4, true, none⟩), (2, ⟨.arg a11 1 (fun i => [.int .u8 (.x (a12 i))]) (fun _ => ⟨rfl, rfl⟩), 1, true, none⟩)]
  args := [.agg [.bool (.x a0), .int .u8 (.x a1), .int .u8 (.x a2), .sla 0 2 0 a3, .sla 1 4 0 a6, .sla 2 1 0 a11]]
  res := (Try.f49).results.toList
  path := fun a => match a with
   | .n0 p0 => [1, 1, 0, 1, 0]
   | .n1 p0 p1 p2 p3 p4 p5 p6 => [1, 1, 0, 1, 0]
  pd := fun a => match a with
   | .n0 p0 => ⟨[(1, .ptr (some (3, 0))), (3, .slc (some (4, 0)) 0 0), (4, .int .i64 (.x p0)), (5, .int .i64 (.x 0))], [(3, ⟨.lit [.bool (.x a0), .int .u8 (.x a1), .int .u8 (.x a2), .sla 0 2 0 a3, .sla 1 4 0 a6, .sla 2 1 0 a11], 0, true, none⟩), (4, ⟨.lit [], 4, true, none⟩)], 5, []⟩
   | .n1 p0 p1 p2 p3 p4 p5 p6 => ⟨[(1, .ptr (some (3, 0))), (3, .slx 4 4 0 p0 p0), (4, .int .i64 (.x p1)), (5, .int .i64 (.x p2))], [(3, ⟨.lit [.bool (.x a0), .int .u8 (.x a1), .int .u8 (.x a2), .sla 0 2 0 a3, .sla 1 4 0 a6, .sla 2 1 0 a11], 0, true, none⟩), (4, ⟨.rows p0 4 (fun i => [.int .i64 (.x (p3 i)), .int .i64 (.x (p4 i)), .int .i64 (.x (p5 i)), .int .i64 (.x (p6 i))]) (fun _ => ⟨rfl, rfl⟩), 4, true, none⟩)], 5, []⟩
  D0 := dosD0 a0 a1 a2 a3 a4 a5 a6 a7 a8 a9 a10 a11 a12
  D := dosD a0 a1 a2 a3 a4 a5 a6 a7 a8 a9 a10 a11 a12
  rc := (fun v => match v with
 | .r0 => .slc (some (3, 0)) 0 0
 | .r1 p0 p1 p2 p3 p4 => .slx 3 4 0 p0 p0)
  rh := (fun v => match v with
 | .r0 => [(3, ⟨.lit [], 4, true, none⟩)]
 | .r1 p0 p1 p2 p3 p4 => [(3, ⟨.rows p0 4 (fun i => [.int .i64 (.x (p1 i)), .int .i64 (.x (p2 i)), .int .i64 (.x (p3 i)), .int .i64 (.x (p4 i))]) (fun _ => ⟨rfl, rfl⟩), 4, true, none⟩)])
  rn := (fun v => match v with
 | .r0 => 4
 | .r1 p0 p1 p2 p3 p4 => 4)
  rx := (fun v => match v with
 | .r0 => []
 | .r1 p0 p1 p2 p3 p4 => [])
  rgo := (fun _ => none)
theorem dosstart (a0 : Bool) (a1 a2 : Int) (a3 : Nat) (a4 a5 : Nat → Int) (a6 : Nat) (a7 a8 a9 a10 : Nat → Int) (a11 : Nat) (a12 : Nat → Int) : AF.edgeOk (dosA a0 a1 a2 a3 a4 a5 a6 a7 a8 a9 a10 a11 a12) (ctxOf Try.prog memo0) (dosD0 a0 a1 a2 a3 a4 a5 a6 a7 a8 a9 a10 a11 a12) (AF.run0 (dosA a0 a1 a2 a3 a4 a5 a6 a7 a8 a9 a10 a11 a12) (ctxOf Try.prog (memoS 48 dtoP dtoF dtoW dtoH 4 memo0))) := by unfold AF.edgeOk; kernel_rfl
theorem dosnode0 (a0 : Bool) (a1 a2 : Int) (a3 : Nat) (a4 a5 : Nat → Int) (a6 : Nat) (a7 a8 a9 a10 : Nat → Int) (a11 : Nat) (a12 : Nat → Int) (p0 : Int) : AF.edgeOk (dosA a0 a1 a2 a3 a4 a5 a6 a7 a8 a9 a10 a11 a12) (ctxOf Try.prog memo0) (dosD a0 a1 a2 a3 a4 a5 a6 a7 a8 a9 a10 a11 a12 (.n0 p0)) (AF.runN (dosA a0 a1 a2 a3 a4 a5 a6 a7 a8 a9 a10 a11 a12) (ctxOf Try.prog (memoS 48 dtoP dtoF dtoW dtoH 4 memo0)) (.n0 p0)) := by unfold AF.edgeOk; kernel_rfl
theorem dosnode1 (a0 : Bool) (a1 a2 : Int) (a3 : Nat) (a4 a5 : Nat → Int) (a6 : Nat) (a7 a8 a9 a10 : Nat → Int) (a11 : Nat) (a12 : Nat → Int) (p0 : Nat) (p1 p2 : Int) (p3 p4 p5 p6 : Nat → Int) : AF.edgeOk (dosA a0 a1 a2 a3 a4 a5 a6 a7 a8 a9 a10 a11 a12) (ctxOf Try.prog memo0) (dosD a0 a1 a2 a3 a4 a5 a6 a7 a8 a9 a10 a11 a12 (.n1 p0 p1 p2 p3 p4 p5 p6)) (AF.runN (dosA a0 a1 a2 a3 a4 a5 a6 a7 a8 a9 a10 a11 a12) (ctxOf Try.prog (memoS 48 dtoP dtoF dtoW dtoH 4 memo0)) (.n1 p0 p1 p2 p3 p4 p5 p6)) := by unfold AF.edgeOk; kernel_rfl
theorem dosok (a0 : Bool) (a1 a2 : Int) (a3 : Nat) (a4 a5 : Nat → Int) (a6 : Nat) (a7 a8 a9 a10 : Nat → Int) (a11 : Nat) (a12 : Nat → Int) : (dosA a0 a1 a2 a3 a4 a5 a6 a7 a8 a9 a10 a11 a12).Ok Try.prog (ctxOf Try.prog (memoS 48 dtoP dtoF dtoW dtoH 4 memo0)) where
  regs := by kernel_rfl
  h0 := by kernel_rfl
  start := dosstart a0 a1 a2 a3 a4 a5 a6 a7 a8 a9 a10 a11 a12
  node := fun a _ => match a with
   | .n0 p0 => dosnode0 a0 a1 a2 a3 a4 a5 a6 a7 a8 a9 a10 a11 a12 p0
   | .n1 p0 p1 p2 p3 p4 p5 p6 => dosnode1 a0 a1 a2 a3 a4 a5 a6 a7 a8 a9 a10 a11 a12 p0 p1 p2 p3 p4 p5 p6
  pd := fun a => match a with
   | .n0 p0 => ⟨(fa_cons rfl (fa_cons rfl (fa_cons rfl (fa_cons rfl fa_nil)))), (fa_cons ⟨.inl (Nat.le_of_ble_eq_true rfl), rfl, rfl⟩ (fa_cons ⟨.inl (Nat.le_of_ble_eq_true rfl), rfl, rfl⟩ fa_nil)), fa_nil, rfl⟩
   | .n1 p0 p1 p2 p3 p4 p5 p6 => ⟨(fa_cons rfl (fa_cons rfl (fa_cons rfl (fa_cons rfl fa_nil)))), (fa_cons ⟨.inl (Nat.le_of_ble_eq_true rfl), rfl, rfl⟩ (fa_cons ⟨.inl (Nat.le_of_ble_eq_true rfl), (fun _ => rfl), rfl⟩ fa_nil)), fa_nil, rfl⟩
  le := fun a => match a with
   | .n0 p0 => Nat.le_of_ble_eq_true rfl
   | .n1 p0 p1 p2 p3 p4 p5 p6 => Nat.le_of_ble_eq_true rfl
  rd := fun v => match v with
   | .r0 => ⟨⟨fa_nil, (fa_cons ⟨.inl (Nat.le_of_ble_eq_true rfl), rfl, rfl⟩ fa_nil), fa_nil, rfl⟩, rfl⟩
   | .r1 p0 p1 p2 p3 p4 => ⟨⟨fa_nil, (fa_cons ⟨.inl (Nat.le_of_ble_eq_true rfl), (fun _ => rfl), rfl⟩ fa_nil), fa_nil, rfl⟩, rfl⟩
  wb := rfl
theorem doshR {ρ : Env} (a0 : Bool) (a1 a2 : Int) (a3 : Nat) (a4 a5 : Nat → Int) (a6 : Nat) (a7 a8 a9 a10 : Nat → Int) (a11 : Nat) (a12 : Nat → Int) (hM : MemoOk Try.prog (ctxOf Try.prog (memoS 48 dtoP dtoF dtoW dtoH 4 memo0)) ρ) : ∀ X a q n D, FxOk ρ X → X.base = (dosA a0 a1 a2 a3 a4 a5 a6 a7 a8 a9 a10 a11 a12).base → X.nt = (dosA a0 a1 a2 a3 a4 a5 a6 a7 a8 a9 a10 a11 a12).nt → X.W = (dosA a0 a1 a2 a3 a4 a5 a6 a7 a8 a9 a10 a11 a12).W → (dosA a0 a1 a2 a3 a4 a5 a6 a7 a8 a9 a10 a11 a12).rgo a = some q → q n = some D → (dosA a0 a1 a2 a3 a4 a5 a6 a7 a8 a9 a10 a11 a12).RangeOk Try.prog ρ X a D := AF.noRange rfl
theorem dosctr {ρ : Env} (a0 : Bool) (a1 a2 : Int) (a3 : Nat) (a4 a5 : Nat → Int) (a6 : Nat) (a7 a8 a9 a10 : Nat → Int) (a11 : Nat) (a12 : Nat → Int) {n : Nat} {v : dosR} (hM : MemoOk Try.prog (ctxOf Try.prog (memoS 48 dtoP dtoF dtoW dtoH 4 memo0)) ρ) (hv : (dosA a0 a1 a2 a3 a4 a5 a6 a7 a8 a9 a10 a11 a12).run n = some v) :
    Ctr Try.prog ρ 49 (dosA a0 a1 a2 a3 a4 a5 a6 a7 a8 a9 a10 a11 a12).args (dosA a0 a1 a2 a3 a4 a5 a6 a7 a8 a9 a10 a11 a12).H0 (dosA a0 a1 a2 a3 a4 a5 a6 a7 a8 a9 a10 a11 a12).base (dosA a0 a1 a2 a3 a4 a5 a6 a7 a8 a9 a10 a11 a12).W ((dosA a0 a1 a2 a3 a4 a5 a6 a7 a8 a9 a10 a11 a12).rc v) (putH (dosA a0 a1 a2 a3 a4 a5 a6 a7 a8 a9 a10 a11 a12).H0 ((dosA a0 a1 a2 a3 a4 a5 a6 a7 a8 a9 a10 a11 a12).rh v ++ (dosA a0 a1 a2 a3 a4 a5 a6 a7 a8 a9 a10 a11 a12).rx v)) ((dosA a0 a1 a2 a3 a4 a5 a6 a7 a8 a9 a10 a11 a12).rn v) :=
  AF.ctr try_ok hM (dosok a0 a1 a2 a3 a4 a5 a6 a7 a8 a9 a10 a11 a12) (fn := Try.f49) Try.func49 rfl rfl (Nat.le_of_ble_eq_true rfl) rfl (doshR a0 a1 a2 a3 a4 a5 a6 a7 a8 a9 a10 a11 a12 hM) hv
theorem dosmem {ρ : Env} : MemoOk Try.prog (ctxOf Try.prog (memoS 48 dtoP dtoF dtoW dtoH 4 memo0)) ρ := (memoS_ok (dtoknown dtomem) memo0_ok)
abbrev dosP : List AQ := [.agg [.bool, .int .u8, .int .u8, .rows [some .u8, some .u8], .rows [some .u8, some .u8, some .u8, some .u8], .rows [some .u8]]]
noncomputable def dosF (v : AW) : AF dosN dosR := dosA (v.b.getD 0 false) (v.i.getD 0 0) (v.i.getD 1 0) (v.t.getD 0 .none).n ((v.t.getD 0 .none).c 0) ((v.t.getD 0 .none).c 1) (v.t.getD 1 .none).n ((v.t.getD 1 .none).c 0) ((v.t.getD 1 .none).c 1) ((v.t.getD 1 .none).c 2) ((v.t.getD 1 .none).c 3) (v.t.getD 2 .none).n ((v.t.getD 2 .none).c 0)
def dosw0 : dosR → Nat
  | .r0 => 0
  | .r1 p0 p1 p2 p3 p4 => p0
def dosw1 : dosR → (Nat → Int)
  | .r0 => fun _ => 0
  | .r1 p0 p1 p2 p3 p4 => p1
def dosw2 : dosR → (Nat → Int)
  | .r0 => fun _ => 0
  | .r1 p0 p1 p2 p3 p4 => p2
def dosw3 : dosR → (Nat → Int)
  | .r0 => fun _ => 0
  | .r1 p0 p1 p2 p3 p4 => p3
def dosw4 : dosR → (Nat → Int)
  | .r0 => fun _ => 0
  | .r1 p0 p1 p2 p3 p4 => p4
noncomputable def dosW : dosR → CV := fun v => .sla 3 4 0 ((dosw0 v))
noncomputable def dosH : dosR → List (Nat × Blk) := fun v => [(3, ⟨.rows ((dosw0 v)) 4 (fun i => [.int .i64 (.x ((dosw1 v) i)), .int .i64 (.x ((dosw2 v) i)), .int .i64 (.x ((dosw3 v) i)), .int .i64 (.x ((dosw4 v) i))]) (fun _ => ⟨rfl, rfl⟩), 4, true, none⟩)]
instance : Inhabited dosR := ⟨.r0⟩
theorem dosknown {ρ : Env} (hM : MemoOk Try.prog (ctxOf Try.prog (memoS 48 dtoP dtoF dtoW dtoH 4 memo0)) ρ) : KnownS Try.prog ρ 49 dosP dosF dosW dosH 4 where
  fn := ⟨Try.f49, Try.func49, rfl⟩
  le := Nat.le_of_ble_eq_true rfl
  full := fun r => rfl
  rg := fun r => rfl
  hg := fun r => (fa_cons ⟨fun _ => rfl, rfl⟩ fa_nil)
  ctr := fun v n r h => match r, h with
    | .r0, h => Ctr.forget (dosctr (v.b.getD 0 false) (v.i.getD 0 0) (v.i.getD 1 0) (v.t.getD 0 .none).n ((v.t.getD 0 .none).c 0) ((v.t.getD 0 .none).c 1) (v.t.getD 1 .none).n ((v.t.getD 1 .none).c 0) ((v.t.getD 1 .none).c 1) ((v.t.getD 1 .none).c 2) ((v.t.getD 1 .none).c 3) (v.t.getD 2 .none).n ((v.t.getD 2 .none).c 0) hM h) (Nat.le_of_ble_eq_true rfl) (Nat.le_of_ble_eq_true rfl) (fun σ => (fun _ h => h.empty_sla)) (fun b h1 h2 k hk => by
      obtain rfl : b = 3 := Nat.le_antisymm (Nat.le_of_lt_succ h2) h1
      have hk := Option.some.inj hk
      subst hk
      exact ⟨_, rfl, rfl, rfl, rfl, rfl, rfl⟩)
    | .r1 p0 p1 p2 p3 p4, h => Ctr.weaken (dosctr (v.b.getD 0 false) (v.i.getD 0 0) (v.i.getD 1 0) (v.t.getD 0 .none).n ((v.t.getD 0 .none).c 0) ((v.t.getD 0 .none).c 1) (v.t.getD 1 .none).n ((v.t.getD 1 .none).c 0) ((v.t.getD 1 .none).c 1) ((v.t.getD 1 .none).c 2) ((v.t.getD 1 .none).c 3) (v.t.getD 2 .none).n ((v.t.getD 2 .none).c 0) hM h) (Nat.le_of_ble_eq_true rfl) (Nat.le_of_ble_eq_true rfl) (fun σ => (fun _ h => h.as_sla)) (fun b h1 h2 => rfl)
end Go.Proofs.Ythagjhadjpangaa.Cx

/- Package die's plain laws: orders, the order of a piece, what is picked, what is cut. -/
namespace Go.Proofs.Ythagjhadjpangaa.Cx
set_option linter.unusedVariables false
set_option linter.unusedSimpArgs false
set_option maxRecDepth 100000
set_option maxHeartbeats 4000000
open Go Go.RowKit
section
variable {a0 : Nat} {a1 a2 a3 a4 : Nat → Int} {a5 : Int}
theorem dal_val (hm : a0 ≤ 40) (h : ∀ i : Nat, i < a0 → 1 ≤ a1 i ∧ a1 i ≤ 10000) : AF.fin (dalA a0 a1 a2 a3 a4) = true ∧ AF.val (dalA a0 a1 a2 a3 a4) = PS a1 a0 := by
  refine AF.val_sat (E := fun v => v = PS a1 a0) (Inv := fun b => match b with | .n0 p0 p1 => 0 ≤ p1 ∧ p1 ≤ a0 ∧ p0 = PS a1 p1.toNat) (fun b => match b with | .n0 p0 p1 => (a0 - p1).toNat) (fun _ => rfl) (fun a hI => ?_) ?_
  · cases a with
    | n0 p0 p1 =>
      obtain ⟨g0, g1, g2⟩ := hI
      show DD.sat _ _ (dalD a0 a1 a2 a3 a4 (.n0 p0 p1))
      unfold dalD
      have e1 : p1 < a0 → Ar.run .add .i64 p1 1 = p1 + 1 := fun h => arAdd (by omega)
      simp only [DD.sat, Nat.zero_add, cmLss, cmLssF, cmLeq, cmLeqF, cmGtr, cmGtrF, cmGeq, cmGeqF, cmEql, cmEqlF, cmNeq, cmNeqF, decide_eq_true_eq, Bool.not_eq_true', Bool.not_eq_false']
      refine ⟨fun hp => ⟨g0, hp, by omega, ?_⟩, fun hp => ?_⟩
      · have r1 := PS_rng h p1.toNat (by omega)
        have r2 := h p1.toNat (by omega)
        rw [e1 hp, arAdd (a := p0) (by omega)]
        refine ⟨⟨by omega, by omega, ?_⟩, by omega⟩
        rw [show (p1 + 1).toNat = p1.toNat + 1 by omega, PS, g2]
      · rw [g2, show p1.toNat = a0 by omega]
  · show 0 ≤ (0 : Int) ∧ (0 : Int) ≤ a0 ∧ (0 : Int) = PS a1 (0 : Int).toNat
    exact ⟨by omega, by omega, rfl⟩
end
section
variable {a0 a1 a2 : Int} {a3 : Bool} {a4 : Int} {a5 : Bool} {a6 a7 : Int} {a8 : Nat} {a9 a10 : Nat → Int} {a11 : Nat} {a12 a13 a14 a15 : Nat → Int} {a16 : Nat} {a17 : Nat → Int}
end
section
variable {a0 : Bool} {a1 a2 : Int} {a3 : Nat} {a4 a5 : Nat → Int} {a6 : Nat} {a7 a8 a9 a10 : Nat → Int} {a11 : Nat} {a12 : Nat → Int} {a13 : Bool} {a14 a15 a16 a17 : Int} {a18 : Nat} {a19 a20 : Nat → Int} {a21 : Nat} {a22 a23 a24 a25 : Nat → Int} {a26 a27 a28 a29 : Int}
/-- The orders that are made. -/
def OrRow (n : Nat) (pc st zl zh : Int) : Prop := (1 ≤ pc ∧ pc ≤ 30) ∧ (0 ≤ st ∧ st < n) ∧ (10000 ≤ zl ∧ zl ≤ 10059) ∧ zl ≤ zh ∧ zh ≤ zl + 255
def OrOk (n : Nat) : dosR → Prop
  | .r0 => False
  | .r1 p0 p1 p2 p3 p4 => (1 ≤ p0 ∧ p0 ≤ 5) ∧ ∀ i : Nat, i < p0 → OrRow n (p1 i) (p2 i) (p3 i) (p4 i)
theorem dos_val (h1 : 0 ≤ a1 ∧ a1 ≤ 255) (h2 : 0 ≤ a2 ∧ a2 ≤ 255) (h4 : ∀ i, 0 ≤ a4 i ∧ a4 i ≤ 255) (h5 : ∀ i, 0 ≤ a5 i ∧ a5 i ≤ 255) (h7 : ∀ i, 0 ≤ a7 i ∧ a7 i ≤ 255) (h8 : ∀ i, 0 ≤ a8 i ∧ a8 i ≤ 255) (h9 : ∀ i, 0 ≤ a9 i ∧ a9 i ≤ 255) (h10 : ∀ i, 0 ≤ a10 i ∧ a10 i ≤ 255) :
    AF.fin (dosA a0 a1 a2 a3 a4 a5 a6 a7 a8 a9 a10 a11 a12) = true ∧ ∃ b p1 p2 p3 p4 n c d, AF.val (dtoA a0 a1 a2 a3 a4 a5 a6 a7 a8 a9 a10 a11 a12) = .r1 b p1 p2 p3 p4 n c d ∧ TlOk (.r1 b p1 p2 p3 p4 n c d) ∧ OrOk n (AF.val (dosA a0 a1 a2 a3 a4 a5 a6 a7 a8 a9 a10 a11 a12)) := by
  obtain ⟨tf, tv⟩ := dto_val (a0 := a0) (a1 := a1) (a2 := a2) (a3 := a3) (a4 := a4) (a5 := a5) (a6 := a6) (a7 := a7) (a8 := a8) (a9 := a9) (a10 := a10) (a11 := a11) (a12 := a12) h1 h2 h4 h5
  cases hT : AF.val (dtoA a0 a1 a2 a3 a4 a5 a6 a7 a8 a9 a10 a11 a12) with
  | r0 _ _ _ _ _ => rw [hT] at tv; exact tv.elim
  | r1 b p1 p2 p3 p4 n c d =>
    rw [hT] at tv
    have hTE : AF.val (dtoA a0 a1 a2 a3 (fun i => a4 i) (fun i => a5 i) a6 (fun i => a7 i) (fun i => a8 i) (fun i => a9 i) (fun i => a10 i) a11 (fun i => a12 i)) = .r1 b p1 p2 p3 p4 n c d := hT
    have hn := tv.2.2.2.2.1
    have row : ∀ i, OrRow n (Ar.run .add .i64 1 (Ar.run .rem .i64 (Ar.run .conv .i64 (a7 i) 0) 30)) (Ar.run .rem .i64 (Ar.run .conv .i64 (a8 i) 0) n) (Ar.run .add .i64 10000 (Ar.run .rem .i64 (Ar.run .conv .i64 (a9 i) 0) 60)) (Ar.run .add .i64 (Ar.run .add .i64 10000 (Ar.run .rem .i64 (Ar.run .conv .i64 (a9 i) 0) 60)) (Ar.run .conv .i64 (a10 i) 0)) := fun i => by
      rw [conv_byte (h7 i), conv_byte (h8 i), conv_byte (h9 i), conv_byte (h10 i)]
      have r1 := rem_pos (h7 i).1 (show (0 : Int) < 30 by omega)
      have r2 := rem_pos (h8 i).1 (show (0 : Int) < n by omega)
      have r3 := rem_pos (h9 i).1 (show (0 : Int) < 60 by omega)
      have b4 := h10 i
      rw [arAdd (a := 1) (by omega), arAdd (a := 10000) (by omega), arAdd (by omega)]
      unfold OrRow
      omega
    have lit : OrRow n 4 (Ar.run .rem .i64 0 n) 10040 10240 := by
      have r2 := rem_pos (x := 0) (k := n) (by omega) (by omega)
      unfold OrRow
      omega
    have ext : ∀ (p : Nat) (c1 c2 c3 c4 : Nat → Int) (x y z u : Int), (∀ i : Nat, i < p → OrRow n (c1 i) (c2 i) (c3 i) (c4 i)) → OrRow n x y z u → ∀ i : Nat, i < p + 1 → OrRow n (bif Nat.blt i p then c1 i else x) (bif Nat.blt i p then c2 i else y) (bif Nat.blt i p then c3 i else z) (bif Nat.blt i p then c4 i else u) := fun p c1 c2 c3 c4 x y z u hc hx i hi => by
      cases hb : Nat.blt i p with
      | true => exact hc i (by rw [Nat.blt_eq] at hb; exact hb)
      | false => exact hx
    have main : AF.fin (dosA a0 a1 a2 a3 a4 a5 a6 a7 a8 a9 a10 a11 a12) = true ∧ OrOk n (AF.val (dosA a0 a1 a2 a3 a4 a5 a6 a7 a8 a9 a10 a11 a12)) := by
      refine AF.val_sat (E := OrOk n)
        (Inv := fun b => match b with | .n0 p0 => p0 = n | .n1 p0 p1 p2 p3 p4 p5 p6 => p1 = n ∧ p2 = p0 ∧ (1 ≤ p0 ∧ p0 ≤ 5) ∧ ∀ i : Nat, i < p0 → OrRow n (p3 i) (p4 i) (p5 i) (p6 i))
        (fun b => match b with | .n0 p0 => 10 | .n1 p0 p1 p2 p3 p4 p5 p6 => 5 - p0) (fun _ => rfl) (fun a hI => ?_) ?_
      · cases a with
        | n0 q0 =>
          obtain rfl : q0 = n := hI
          show DD.sat _ _ (dosD a0 a1 a2 a3 a4 a5 a6 a7 a8 a9 a10 a11 a12 (.n0 n))
          unfold dosD
          simp only [DD.sat, Nat.zero_add, cmLss, cmLssF, cmLeq, cmLeqF, cmGtr, cmGtrF, cmGeq, cmGeqF, cmEql, cmEqlF, cmNeq, cmNeqF, decide_eq_true_eq, Bool.not_eq_true', Bool.not_eq_false', Int.toNat_zero]
          refine ⟨fun _ => ⟨fun hl => ⟨trivial, hl, by omega, by omega, ⟨trivial, rfl, ⟨by decide, by decide⟩, fun i hi => row 0⟩, by decide⟩, fun hl => ⟨by omega, ⟨trivial, rfl, ⟨by decide, by decide⟩, fun i hi => lit⟩, by decide⟩⟩, fun hx => (by cases hx)⟩
        | n1 q0 q1 q2 q3 q4 q5 q6 =>
          obtain ⟨rfl, rfl, g0, g1⟩ := hI
          show DD.sat _ _ (dosD a0 a1 a2 a3 a4 a5 a6 a7 a8 a9 a10 a11 a12 (.n1 q0 n q0 q3 q4 q5 q6))
          unfold dosD
          have ea : Ar.run .add .i64 (q0 : Int) 1 = ((q0 + 1 : Nat) : Int) := by rw [arAdd (by omega)]; omega
          simp only [DD.sat, Nat.zero_add, cmLss, cmLssF, cmLeq, cmLeqF, cmGtr, cmGtrF, cmGeq, cmGeqF, cmEql, cmEqlF, cmNeq, cmNeqF, decide_eq_true_eq, Bool.not_eq_true', Bool.not_eq_false', ea]
          refine ⟨fun hx => by omega, fun _ => ⟨fun hl => ⟨fun h5' => ⟨fun _ => ⟨by omega, hl, by omega, by omega, Nat.le_refl _, by omega, ⟨trivial, trivial, by omega, ?_⟩, by omega⟩, fun hx => by omega⟩, fun h5' => ⟨by omega, g1⟩⟩, fun hl => ⟨g0, g1⟩⟩⟩
          exact ext q0 q3 q4 q5 q6 _ _ _ _ g1 (row (q0 : Int).toNat)
      · show DD.sat _ _ (dosD0 a0 a1 a2 a3 a4 a5 a6 a7 a8 a9 a10 a11 a12)
        unfold dosD0
        simp only [DD.sat, Nat.zero_add, cmLss, cmLssF, cmLeq, cmLeqF, cmGtr, cmGtrF, cmGeq, cmGeqF, cmEql, cmEqlF, cmNeq, cmNeqF, decide_eq_true_eq, Bool.not_eq_true', Bool.not_eq_false', hTE, dtow5]
        exact ⟨Nat.le_refl _, shape_ok fun i _ => rfl, Nat.le_refl _, shape_ok fun i _ => rfl, Nat.le_refl _, shape_ok fun i _ => rfl, tf, trivial⟩
    exact ⟨main.1, b, p1, p2, p3, p4, n, c, d, rfl, tv, main.2⟩
end
/-- A tool and orders that are made are valid. -/
theorem made_ok {b : Bool} {p1 p2 p3 p4 : Int} {n : Nat} {c d : Nat → Int} {m : Nat} {pc st zl zh : Nat → Int} (ht : TlOk (.r1 b p1 p2 p3 p4 n c d)) (ho : OrOk n (.r1 m pc st zl zh)) :
    CkS n m (ToolOk n c d p1 p2 p3 p4) pc st zl zh 0 ∧ JobOk p1 p2 p3 p4 n c d m pc st zl zh ∧ 0 < PS pc m ∧ PS pc m ≤ 150 := by
  obtain ⟨t1, t2, t3, t4, t5, t6⟩ := ht
  obtain ⟨o1, o2⟩ := ho
  have tool : ToolOk n c d p1 p2 p3 p4 := ⟨by omega, fun i hi => by
    have := t6 i (by omega)
    unfold RowOk at this
    unfold VOk
    omega, by unfold VOk; omega, by unfold VOk; omega⟩
  have ord : ∀ i : Nat, i < m → OrdOk n (pc i) (st i) (zl i) (zh i) := fun i hi => by
    have := o2 i hi
    unfold OrRow at this
    exact ⟨⟨by omega, by omega, by unfold VOk; omega⟩, by omega, by omega⟩
  have r := PS_rng (pc := pc) (m := m) (fun i hi => ⟨(ord i hi).1.1, (ord i hi).1.2.1⟩) m (Nat.le_refl _)
  have r2 : ∀ k, k ≤ m → PS pc k ≤ 30 * k := by
    intro k
    induction k with
    | zero => intro _; simp [PS]
    | succ k ih =>
      intro hk
      have a := ih (by omega)
      have b := o2 k (by omega)
      unfold OrRow at b
      rw [PS]
      omega
  have r3 := r2 m (Nat.le_refl _)
  exact ⟨.inr ⟨by omega, 0, .inr ⟨by omega, .inl ⟨tool, rfl⟩⟩, .inr ⟨rfl, .inr ⟨ord, .inr ⟨by omega, rfl⟩⟩⟩⟩, ⟨tool, by omega, ord⟩, by omega, by omega⟩
end Go.Proofs.Ythagjhadjpangaa.Cx

/- slices.IndexFunc[[]int,int] as an automaton. Made by tools/cxauto.py. -/
namespace Go.Proofs.Ythagjhadjpangaa.Cx
set_option linter.unusedVariables false
set_option linter.unusedSimpArgs false
set_option maxRecDepth 100000
open Go Go.Proofs Go.RowKit
abbrev xixR := Int
instance : Inhabited xixR := ⟨0⟩
end Go.Proofs.Ythagjhadjpangaa.Cx

/- slices.ContainsFunc[[]int,int] as an automaton. Made by tools/cxauto.py. -/
namespace Go.Proofs.Ythagjhadjpangaa.Cx
set_option linter.unusedVariables false
set_option linter.unusedSimpArgs false
set_option maxRecDepth 100000
open Go Go.Proofs Go.RowKit
abbrev xcfR := Bool
instance : Inhabited xcfR := ⟨false⟩
end Go.Proofs.Ythagjhadjpangaa.Cx

/- acme/exact.AllFrom as an automaton. Made by tools/cxauto.py. -/
namespace Go.Proofs.Ythagjhadjpangaa.Cx
set_option linter.unusedVariables false
set_option linter.unusedSimpArgs false
set_option maxRecDepth 100000
open Go Go.Proofs Go.RowKit
abbrev xalR := Bool
instance : Inhabited xalR := ⟨false⟩
end Go.Proofs.Ythagjhadjpangaa.Cx

/- (acme/die.shop).inOrder as an automaton. Made by tools/cxauto.py. -/
namespace Go.Proofs.Ythagjhadjpangaa.Cx
set_option linter.unusedVariables false
set_option linter.unusedSimpArgs false
set_option maxRecDepth 100000
open Go Go.Proofs Go.RowKit
abbrev dioR := Bool
instance : Inhabited dioR := ⟨false⟩
end Go.Proofs.Ythagjhadjpangaa.Cx

/- (acme/die.shop).validPlan as an automaton. Made by tools/cxauto.py. -/
namespace Go.Proofs.Ythagjhadjpangaa.Cx
set_option linter.unusedVariables false
set_option linter.unusedSimpArgs false
set_option maxRecDepth 100000
open Go Go.Proofs Go.RowKit
abbrev dvpR := Bool
instance : Inhabited dvpR := ⟨false⟩
end Go.Proofs.Ythagjhadjpangaa.Cx

/- acme/acmeref07.Settings as an automaton. Made by tools/cxauto.py. -/
namespace Go.Proofs.Ythagjhadjpangaa.Cx
set_option linter.unusedVariables false
set_option linter.unusedSimpArgs false
set_option maxRecDepth 100000
open Go Go.Proofs Go.RowKit
abbrev rdsR := Int
instance : Inhabited rdsR := ⟨0⟩
end Go.Proofs.Ythagjhadjpangaa.Cx

/- acme/acmeref07.Pieces as an automaton. Made by tools/cxauto.py. -/
namespace Go.Proofs.Ythagjhadjpangaa.Cx
set_option linter.unusedVariables false
set_option linter.unusedSimpArgs false
set_option maxRecDepth 100000
open Go Go.Proofs Go.RowKit
abbrev rdcR := Bool
instance : Inhabited rdcR := ⟨false⟩
end Go.Proofs.Ythagjhadjpangaa.Cx

/- acme/die.Proves as an automaton. Made by tools/cxauto.py. -/
namespace Go.Proofs.Ythagjhadjpangaa.Cx
set_option linter.unusedVariables false
set_option linter.unusedSimpArgs false
set_option maxRecDepth 100000
open Go Go.Proofs Go.RowKit
abbrev dprR := Int × Int
instance : Inhabited dprR := ⟨(0, 0)⟩
end Go.Proofs.Ythagjhadjpangaa.Cx

/- acme/acmeref07.Proves as an automaton. Made by tools/cxauto.py. -/
namespace Go.Proofs.Ythagjhadjpangaa.Cx
set_option linter.unusedVariables false
set_option linter.unusedSimpArgs false
set_option maxRecDepth 100000
open Go Go.Proofs Go.RowKit
abbrev rdqR := Int
instance : Inhabited rdqR := ⟨0⟩
end Go.Proofs.Ythagjhadjpangaa.Cx

/- Package die: lists of numbers and settings: what is valid; Proves. -/
namespace Go.Proofs.Ythagjhadjpangaa.Cx
set_option linter.unusedVariables false
set_option linter.unusedSimpArgs false
set_option maxRecDepth 100000
set_option maxHeartbeats 4000000
open Go Go.RowKit
section
variable {a0 a1 : Int} {a2 : Nat} {a3 : Nat → Int}
end
section
variable {a0 : Bool} {a1 a2 a3 a4 : Int} {a5 : Nat} {a6 a7 : Nat → Int} {a8 : Nat} {a9 a10 a11 a12 : Nat → Int} {a13 : Int} {a14 : Nat} {a15 a16 : Nat → Int}
end
section
variable {a0 : Nat} {a1 a2 a3 a4 : Nat → Int} {a5 : Nat} {a6 a7 : Nat → Int}
end
section
variable {a0 : Bool} {a1 a2 a3 a4 : Int} {a5 : Nat} {a6 a7 : Nat → Int} {a8 : Nat} {a9 a10 a11 a12 : Nat → Int} {a13 : Nat} {a14 : Nat → Int}
end
end Go.Proofs.Ythagjhadjpangaa.Cx

/- acme/die.Judge as an automaton. Made by tools/cxauto.py. -/
namespace Go.Proofs.Ythagjhadjpangaa.Cx
set_option linter.unusedVariables false
set_option linter.unusedSimpArgs false
set_option maxRecDepth 100000
open Go Go.Proofs Go.RowKit
abbrev djuR := Int × Int
instance : Inhabited djuR := ⟨(0, 0)⟩
end Go.Proofs.Ythagjhadjpangaa.Cx

/- acme/acmeref07.Judge as an automaton. Made by tools/cxauto.py. -/
namespace Go.Proofs.Ythagjhadjpangaa.Cx
set_option linter.unusedVariables false
set_option linter.unusedSimpArgs false
set_option maxRecDepth 100000
open Go Go.Proofs Go.RowKit
abbrev rdjR := Int
instance : Inhabited rdjR := ⟨0⟩
end Go.Proofs.Ythagjhadjpangaa.Cx

/- Package die: Judge, the program's and the reference's. -/
namespace Go.Proofs.Ythagjhadjpangaa.Cx
set_option linter.unusedVariables false
set_option linter.unusedSimpArgs false
set_option maxRecDepth 100000
set_option maxHeartbeats 4000000
open Go Go.RowKit
section
variable {a0 : Bool} {a1 a2 a3 a4 : Int} {a5 : Nat} {a6 a7 : Nat → Int} {a8 : Nat} {a9 a10 a11 a12 : Nat → Int} {a13 : Nat} {a14 a15 : Nat → Int}
end
end Go.Proofs.Ythagjhadjpangaa.Cx

/- Package die: what chains of settings that go as far as they can make sure. -/
namespace Go.Proofs.Ythagjhadjpangaa.Cx
set_option linter.unusedVariables false
set_option linter.unusedSimpArgs false
set_option maxRecDepth 100000
set_option maxHeartbeats 4000000
open Go Go.RowKit
section
variable {b : Bool} {s1 s2 c1 c2 : Int} {n : Nat} {w1 w2 : Nat → Int} {m : Nat} {pc st zl zh : Nat → Int} {f : Int} {j k : Nat} {F G : Nat → Int}
end
end Go.Proofs.Ythagjhadjpangaa.Cx

/- acme/die.Most as an automaton. Made by tools/cxauto.py. -/
namespace Go.Proofs.Ythagjhadjpangaa.Cx
set_option linter.unusedVariables false
set_option linter.unusedSimpArgs false
set_option maxRecDepth 100000
open Go Go.Proofs Go.RowKit
noncomputable abbrev dmoCode : Code := funcCode Try.f30
noncomputable abbrev dmos0Code : Code := funcCode Try.f92
inductive dmos0N where
  | n0 (q0 q1 : Int)
inductive dmos0R where
  | r0 (q0 q1 : Int)
  | r1 (q0 q1 : Int)
noncomputable def dmos0D0 (a0 : Bool) (a1 a2 a3 a4 : Int) (a5 : Nat) (a6 a7 : Nat → Int) (a8 : Nat) (a9 a10 a11 a12 : Nat → Int) (a13 : Int) (p0 : Bool) (p1 p2 p3 p4 : Int) (p5 p6 : Nat) (p7 : Int) : DD (Lf dmos0N dmos0R) :=
 .leaf (.next (.n0 0 a13) [])

noncomputable def dmos0D (a0 : Bool) (a1 a2 a3 a4 : Int) (a5 : Nat) (a6 a7 : Nat → Int) (a8 : Nat) (a9 a10 a11 a12 : Nat → Int) (a13 : Int) (p0 : Bool) (p1 p2 p3 p4 : Int) (p5 p6 : Nat) (p7 : Int) : dmos0N → DD (Lf dmos0N dmos0R)
 | .n0 q0 q1 =>
 let z0 := fun i => [CV.int IntKind.i64 (IE.x (a6 (0 + i))), CV.int IntKind.i64 (IE.x (a7 (0 + i)))]
 let z1 := fun i => [CV.int IntKind.i64 (IE.x (a9 (0 + i))), CV.int IntKind.i64 (IE.x (a10 (0 + i))), CV.int IntKind.i64 (IE.x (a11 (0 + i))), CV.int IntKind.i64 (IE.x (a12 (0 + i)))]
 let z2 := drcA p0 p1 p2 p3 p4 p5 (fun i => a6 (0 + i)) (fun i => a7 (0 + i)) p6 (fun i => a9 (0 + i)) (fun i => a10 (0 + i)) (fun i => a11 (0 + i)) (fun i => a12 (0 + i)) p7 (-10000000000) 20000000000 q0 p7
 let z3 := Prod.snd (Prod.snd (AF.val z2))
 .ask (Cm.run .lss q0 p7)
   (.must (decide (0 + p5 ≤ a5))
   (.must (ShapeOk [some IntKind.i64, some IntKind.i64] (tabOf p5 z0) z0)
   (.must (decide (0 + p6 ≤ a8))
   (.must (ShapeOk [some IntKind.i64, some IntKind.i64, some IntKind.i64, some IntKind.i64] (tabOf p6 z1) z1)
   (.must (AF.fin z2)
   (.ask (Cm.run .eql z3 q0)
   (.leaf (.done (.r0 q1 q0) []))
   (.ask (Cm.run .eql q1 0)
   (.leaf (.done (.r1 q1 q0) []))
   (.leaf (.next (.n0 z3 (Ar.run .sub .i64 q1 1)) [])))))))))
   (.leaf (.done (.r0 q1 q0) []))

noncomputable def dmos0A (a0 : Bool) (a1 a2 a3 a4 : Int) (a5 : Nat) (a6 a7 : Nat → Int) (a8 : Nat) (a9 a10 a11 a12 : Nat → Int) (a13 : Int) (p0 : Bool) (p1 p2 p3 p4 : Int) (p5 p6 : Nat) (p7 : Int) : AF dmos0N dmos0R where
  code := dmos0Code
  base := 6
  nt := 33
  m := 400
  un := []
  W := [2, 3, 5]
  h0 := ((5, recB (mkT [(5, .ptr (some (2, 0))), (10, .ptr (some (3, 0))), (27, .fn (.func 92) [] [.ptr (some (4, 0))])]) 36 (rgP (codeAt dmoCode [1, 1, 1, 1, 1, 0, 1, 0])) (rgA (codeAt dmoCode [1, 1, 1, 1, 1, 0, 1, 0])) (rgB (codeAt dmoCode [1, 1, 1, 1, 1, 0, 1, 0]))) :: (([(2, ⟨.lit [.int .i64 (.x a13)], 0, true, none⟩), (3, ⟨.lit [.int .i64 (.x 0)], 0, true, none⟩), (4, ⟨.lit [.bool (.x p0), .int .i64 (.x p1), .int .i64 (.x p2), .int .i64 (.x p3), .int .i64 (.x p4), .sla 0 2 0 p5, .sla 1 4 0 p6, .int .i64 (.x p7)], 0, true, none⟩)] ++ []) ++ [(0, ⟨.arg a5 2 (fun i => [.int .i64 (.x (a6 i)), .int .i64 (.x (a7 i))]) (fun _ => ⟨rfl, rfl⟩), 2, true, none⟩), (1, ⟨.arg a8 4 (fun i => [.int .i64 (.x (a9 i)), .int .i64 (.x (a10 i)), .int .i64 (.x (a11 i)), .int .i64 (.x (a12 i))]) (fun _ => ⟨rfl, rfl⟩), 4, true, none⟩)]))
  args := [.yld 5, .ptr (some (4, 0))]
  res := (Try.f92).results.toList
  path := fun a => match a with
   | .n0 q0 q1 => [1, 0]
  pd := fun a => match a with
   | .n0 q0 q1 => ⟨[(0, .yld 5), (1, .ptr (some (4, 0))), (3, .int .i64 (.x q0))], [(2, ⟨.lit [.int .i64 (.x q1)], 0, true, none⟩), (3, ⟨.lit [.int .i64 (.x q0)], 0, true, none⟩)], 6, [(5, recS (mkT [(5, .ptr (some (2, 0))), (10, .ptr (some (3, 0))), (27, .fn (.func 92) [] [.ptr (some (4, 0))])]) 36 (rgP (codeAt dmoCode [1, 1, 1, 1, 1, 0, 1, 0])) (rgA (codeAt dmoCode [1, 1, 1, 1, 1, 0, 1, 0])) (rgB (codeAt dmoCode [1, 1, 1, 1, 1, 0, 1, 0])) (.ready) (.none))]⟩
  D0 := dmos0D0 a0 a1 a2 a3 a4 a5 a6 a7 a8 a9 a10 a11 a12 a13 p0 p1 p2 p3 p4 p5 p6 p7
  D := dmos0D a0 a1 a2 a3 a4 a5 a6 a7 a8 a9 a10 a11 a12 a13 p0 p1 p2 p3 p4 p5 p6 p7
  rc := (fun v => match v with
 | .r0 q0 q1 => .tup []
 | .r1 q0 q1 => .tup [])
  rh := (fun v => match v with
 | .r0 q0 q1 => [(2, ⟨.lit [.int .i64 (.x q0)], 0, true, none⟩), (3, ⟨.lit [.int .i64 (.x q1)], 0, true, none⟩)]
 | .r1 q0 q1 => [(2, ⟨.lit [.int .i64 (.x q0)], 0, true, none⟩), (3, ⟨.lit [.int .i64 (.x q1)], 0, true, none⟩)])
  rn := (fun v => match v with
 | .r0 q0 q1 => 6
 | .r1 q0 q1 => 6)
  rx := (fun v => match v with
 | .r0 q0 q1 => [(5, recS (mkT [(5, .ptr (some (2, 0))), (10, .ptr (some (3, 0))), (27, .fn (.func 92) [] [.ptr (some (4, 0))])]) 36 (rgP (codeAt dmoCode [1, 1, 1, 1, 1, 0, 1, 0])) (rgA (codeAt dmoCode [1, 1, 1, 1, 1, 0, 1, 0])) (rgB (codeAt dmoCode [1, 1, 1, 1, 1, 0, 1, 0])) (.ready) (.none))]
 | .r1 q0 q1 => [(5, recS (mkT [(5, .ptr (some (2, 0))), (10, .ptr (some (3, 0))), (27, .fn (.func 92) [] [.ptr (some (4, 0))])]) 36 (rgP (codeAt dmoCode [1, 1, 1, 1, 1, 0, 1, 0])) (rgA (codeAt dmoCode [1, 1, 1, 1, 1, 0, 1, 0])) (rgB (codeAt dmoCode [1, 1, 1, 1, 1, 0, 1, 0])) (.done) ((.some (.exit 0))))])
  rgo := (fun _ => none)
theorem dmos0start (a0 : Bool) (a1 a2 a3 a4 : Int) (a5 : Nat) (a6 a7 : Nat → Int) (a8 : Nat) (a9 a10 a11 a12 : Nat → Int) (a13 : Int) (p0 : Bool) (p1 p2 p3 p4 : Int) (p5 p6 : Nat) (p7 : Int) : AF.edgeOk (dmos0A a0 a1 a2 a3 a4 a5 a6 a7 a8 a9 a10 a11 a12 a13 p0 p1 p2 p3 p4 p5 p6 p7) (ctxOf Try.prog memo0) (dmos0D0 a0 a1 a2 a3 a4 a5 a6 a7 a8 a9 a10 a11 a12 a13 p0 p1 p2 p3 p4 p5 p6 p7) (AF.run0 (dmos0A a0 a1 a2 a3 a4 a5 a6 a7 a8 a9 a10 a11 a12 a13 p0 p1 p2 p3 p4 p5 p6 p7) (ctxOf Try.prog (memoS 67 drcP drcF drcW drcH 2 (memoP 63 dshP dshF dshW dshH 2 memo0)))) := by unfold AF.edgeOk; kernel_rfl
theorem dmos0node0 (a0 : Bool) (a1 a2 a3 a4 : Int) (a5 : Nat) (a6 a7 : Nat → Int) (a8 : Nat) (a9 a10 a11 a12 : Nat → Int) (a13 : Int) (p0 : Bool) (p1 p2 p3 p4 : Int) (p5 p6 : Nat) (p7 q0 q1 : Int) : AF.edgeOk (dmos0A a0 a1 a2 a3 a4 a5 a6 a7 a8 a9 a10 a11 a12 a13 p0 p1 p2 p3 p4 p5 p6 p7) (ctxOf Try.prog memo0) (dmos0D a0 a1 a2 a3 a4 a5 a6 a7 a8 a9 a10 a11 a12 a13 p0 p1 p2 p3 p4 p5 p6 p7 (.n0 q0 q1)) (AF.runN (dmos0A a0 a1 a2 a3 a4 a5 a6 a7 a8 a9 a10 a11 a12 a13 p0 p1 p2 p3 p4 p5 p6 p7) (ctxOf Try.prog (memoS 67 drcP drcF drcW drcH 2 (memoP 63 dshP dshF dshW dshH 2 memo0))) (.n0 q0 q1)) := by unfold AF.edgeOk; kernel_rfl
theorem dmos0ok (a0 : Bool) (a1 a2 a3 a4 : Int) (a5 : Nat) (a6 a7 : Nat → Int) (a8 : Nat) (a9 a10 a11 a12 : Nat → Int) (a13 : Int) (p0 : Bool) (p1 p2 p3 p4 : Int) (p5 p6 : Nat) (p7 : Int) : (dmos0A a0 a1 a2 a3 a4 a5 a6 a7 a8 a9 a10 a11 a12 a13 p0 p1 p2 p3 p4 p5 p6 p7).Ok Try.prog (ctxOf Try.prog (memoS 67 drcP drcF drcW drcH 2 (memoP 63 dshP dshF dshW dshH 2 memo0))) where
  regs := by kernel_rfl
  h0 := by kernel_rfl
  start := dmos0start a0 a1 a2 a3 a4 a5 a6 a7 a8 a9 a10 a11 a12 a13 p0 p1 p2 p3 p4 p5 p6 p7
  node := fun a _ => match a with
   | .n0 q0 q1 => dmos0node0 a0 a1 a2 a3 a4 a5 a6 a7 a8 a9 a10 a11 a12 a13 p0 p1 p2 p3 p4 p5 p6 p7 q0 q1
  pd := fun a => match a with
   | .n0 q0 q1 => ⟨(fa_cons rfl (fa_cons rfl (fa_cons rfl fa_nil))), (fa_cons ⟨.inr (memW rfl), rfl, rfl⟩ (fa_cons ⟨.inr (memW rfl), rfl, rfl⟩ fa_nil)), (fa_cons ⟨memW rfl, RecOk.of rfl⟩ fa_nil), rfl⟩
  le := fun a => match a with
   | .n0 q0 q1 => Nat.le_of_ble_eq_true rfl
  rd := fun v => match v with
   | .r0 q0 q1 => ⟨⟨fa_nil, (fa_cons ⟨.inr (memW rfl), rfl, rfl⟩ (fa_cons ⟨.inr (memW rfl), rfl, rfl⟩ fa_nil)), (fa_cons ⟨memW rfl, RecOk.of rfl⟩ fa_nil), rfl⟩, rfl⟩
   | .r1 q0 q1 => ⟨⟨fa_nil, (fa_cons ⟨.inr (memW rfl), rfl, rfl⟩ (fa_cons ⟨.inr (memW rfl), rfl, rfl⟩ fa_nil)), (fa_cons ⟨memW rfl, RecOk.of rfl⟩ fa_nil), rfl⟩, rfl⟩
  wb := rfl
theorem dmos0hR {ρ : Env} (a0 : Bool) (a1 a2 a3 a4 : Int) (a5 : Nat) (a6 a7 : Nat → Int) (a8 : Nat) (a9 a10 a11 a12 : Nat → Int) (a13 : Int) (p0 : Bool) (p1 p2 p3 p4 : Int) (p5 p6 : Nat) (p7 : Int) (hM : MemoOk Try.prog (ctxOf Try.prog (memoS 67 drcP drcF drcW drcH 2 (memoP 63 dshP dshF dshW dshH 2 memo0))) ρ) : ∀ X a q n D, FxOk ρ X → X.base = (dmos0A a0 a1 a2 a3 a4 a5 a6 a7 a8 a9 a10 a11 a12 a13 p0 p1 p2 p3 p4 p5 p6 p7).base → X.nt = (dmos0A a0 a1 a2 a3 a4 a5 a6 a7 a8 a9 a10 a11 a12 a13 p0 p1 p2 p3 p4 p5 p6 p7).nt → X.W = (dmos0A a0 a1 a2 a3 a4 a5 a6 a7 a8 a9 a10 a11 a12 a13 p0 p1 p2 p3 p4 p5 p6 p7).W → (dmos0A a0 a1 a2 a3 a4 a5 a6 a7 a8 a9 a10 a11 a12 a13 p0 p1 p2 p3 p4 p5 p6 p7).rgo a = some q → q n = some D → (dmos0A a0 a1 a2 a3 a4 a5 a6 a7 a8 a9 a10 a11 a12 a13 p0 p1 p2 p3 p4 p5 p6 p7).RangeOk Try.prog ρ X a D := AF.noRange rfl
inductive dmoN where
  | n0 (p0 : Bool) (p1 p2 p3 p4 : Int) (p5 p6 : Nat) (p7 : Int)
abbrev dmoR := Int × Int
noncomputable def dmoD0 (a0 : Bool) (a1 a2 a3 a4 : Int) (a5 : Nat) (a6 a7 : Nat → Int) (a8 : Nat) (a9 a10 a11 a12 : Nat → Int) (a13 : Int) : DD (Lf dmoN dmoR) :=
 let z0 := fun i => [CV.int IntKind.i64 (IE.x (a6 (0 + i))), CV.int IntKind.i64 (IE.x (a7 (0 + i)))]
 let z1 := fun i => [CV.int IntKind.i64 (IE.x (a9 (0 + i))), CV.int IntKind.i64 (IE.x (a10 (0 + i))), CV.int IntKind.i64 (IE.x (a11 (0 + i))), CV.int IntKind.i64 (IE.x (a12 (0 + i)))]
 let z2 := dshA a0 a1 a2 a3 a4 a5 (fun i => a6 (0 + i)) (fun i => a7 (0 + i)) a8 (fun i => a9 (0 + i)) (fun i => a10 (0 + i)) (fun i => a11 (0 + i)) (fun i => a12 (0 + i))
 let z3 := AF.val z2
 .must (decide (0 + a5 ≤ a5))
   (.must (ShapeOk [some IntKind.i64, some IntKind.i64] (tabOf a5 z0) z0)
   (.must (decide (0 + a8 ≤ a8))
   (.must (ShapeOk [some IntKind.i64, some IntKind.i64, some IntKind.i64, some IntKind.i64] (tabOf a8 z1) z1)
   (.must (AF.fin z2)
   (.ask (Cm.run .neq (dshw8 z3) 0)
   (.leaf (.done (0, dshw8 z3) []))
   (.ask (Cm.run .lss a13 0)
   (.leaf (.done (0, 3) []))
   (.ask (Cm.run .gtr a13 1000)
   (.leaf (.done (0, 3) []))
   (.leaf (.next (.n0 (dshw0 z3) (dshw1 z3) (dshw2 z3) (dshw3 z3) (dshw4 z3) (dshw5 z3) (dshw6 z3) (dshw7 z3)) [3, 8, 9])))))))))

noncomputable def dmoD (a0 : Bool) (a1 a2 a3 a4 : Int) (a5 : Nat) (a6 a7 : Nat → Int) (a8 : Nat) (a9 a10 a11 a12 : Nat → Int) (a13 : Int) : dmoN → DD (Lf dmoN dmoR)
 | .n0 p0 p1 p2 p3 p4 p5 p6 p7 =>
 .dead

noncomputable def dmoRg0 (a0 : Bool) (a1 a2 a3 a4 : Int) (a5 : Nat) (a6 a7 : Nat → Int) (a8 : Nat) (a9 a10 a11 a12 : Nat → Int) (a13 : Int) (p0 : Bool) (p1 p2 p3 p4 : Int) (p5 p6 : Nat) (p7 : Int) : dmos0R → DD (Lf dmoN dmoR)
 | .r0 q0 q1 =>
 .leaf (.done (q1, 0) [])
 | .r1 q0 q1 =>
 .leaf (.done (q1, 0) [])

noncomputable def dmoA (a0 : Bool) (a1 a2 a3 a4 : Int) (a5 : Nat) (a6 a7 : Nat → Int) (a8 : Nat) (a9 a10 a11 a12 : Nat → Int) (a13 : Int) : AF dmoN dmoR where
  code := dmoCode
  base := 2
  nt := 36
  m := 400
  un := [1000008]
  W := []
  h0 := [(0, ⟨.arg a5 2 (fun i => [.int .i64 (.x (a6 i)), .int .i64 (.x (a7 i))]) (fun _ => ⟨rfl, rfl⟩), 2, true, none⟩), (1, ⟨.arg a8 4 (fun i => [.int .i64 (.x (a9 i)), .int .i64 (.x (a10 i)), .int .i64 (.x (a11 i)), .int .i64 (.x (a12 i))]) (fun _ => ⟨rfl, rfl⟩), 4, true, none⟩)]
  args := [.agg [.bool (.x a0), .int .i64 (.x a1), .int .i64 (.x a2), .int .i64 (.x a3), .int .i64 (.x a4), .sla 0 2 0 a5], .sla 1 4 0 a8, .int .i64 (.x a13)]
  res := (Try.f30).results.toList
  path := fun a => match a with
   | .n0 p0 p1 p2 p3 p4 p5 p6 p7 => [1, 1, 1, 1, 1, 0, 1, 0]
  pd := fun a => match a with
   | .n0 p0 p1 p2 p3 p4 p5 p6 p7 => ⟨[(5, .ptr (some (2, 0))), (10, .ptr (some (3, 0))), (27, .fn (.func 92) [] [.ptr (some (4, 0))])], [(2, ⟨.lit [.int .i64 (.x a13)], 0, true, none⟩), (3, ⟨.lit [.int .i64 (.x 0)], 0, true, none⟩), (4, ⟨.lit [.bool (.x p0), .int .i64 (.x p1), .int .i64 (.x p2), .int .i64 (.x p3), .int .i64 (.x p4), .sla 0 2 0 p5, .sla 1 4 0 p6, .int .i64 (.x p7)], 0, true, none⟩)], 5, []⟩
  D0 := dmoD0 a0 a1 a2 a3 a4 a5 a6 a7 a8 a9 a10 a11 a12 a13
  D := dmoD a0 a1 a2 a3 a4 a5 a6 a7 a8 a9 a10 a11 a12 a13
  rc := (fun v => .tup [.int .i64 (.x v.1), .int .i64 (.x v.2)])
  rh := (fun v => [])
  rn := (fun v => 2)
  rx := (fun v => [])
  rgo := (fun a => match a with
   | .n0 p0 p1 p2 p3 p4 p5 p6 p7 => some (fun n => (AF.run (dmos0A a0 a1 a2 a3 a4 a5 a6 a7 a8 a9 a10 a11 a12 a13 p0 p1 p2 p3 p4 p5 p6 p7) n).map (dmoRg0 a0 a1 a2 a3 a4 a5 a6 a7 a8 a9 a10 a11 a12 a13 p0 p1 p2 p3 p4 p5 p6 p7)))
theorem dmostart (a0 : Bool) (a1 a2 a3 a4 : Int) (a5 : Nat) (a6 a7 : Nat → Int) (a8 : Nat) (a9 a10 a11 a12 : Nat → Int) (a13 : Int) : AF.edgeOk (dmoA a0 a1 a2 a3 a4 a5 a6 a7 a8 a9 a10 a11 a12 a13) (ctxOf Try.prog memo0) (dmoD0 a0 a1 a2 a3 a4 a5 a6 a7 a8 a9 a10 a11 a12 a13) (AF.run0 (dmoA a0 a1 a2 a3 a4 a5 a6 a7 a8 a9 a10 a11 a12 a13) (ctxOf Try.prog (memoS 67 drcP drcF drcW drcH 2 (memoP 63 dshP dshF dshW dshH 2 memo0)))) := by unfold AF.edgeOk; kernel_rfl
theorem dmook (a0 : Bool) (a1 a2 a3 a4 : Int) (a5 : Nat) (a6 a7 : Nat → Int) (a8 : Nat) (a9 a10 a11 a12 : Nat → Int) (a13 : Int) : (dmoA a0 a1 a2 a3 a4 a5 a6 a7 a8 a9 a10 a11 a12 a13).Ok Try.prog (ctxOf Try.prog (memoS 67 drcP drcF drcW drcH 2 (memoP 63 dshP dshF dshW dshH 2 memo0))) where
  regs := by kernel_rfl
  h0 := by kernel_rfl
  start := dmostart a0 a1 a2 a3 a4 a5 a6 a7 a8 a9 a10 a11 a12 a13
  node := fun a h => match a, h with
   | .n0 p0 p1 p2 p3 p4 p5 p6 p7, h => someNe h
  pd := fun a => match a with
   | .n0 p0 p1 p2 p3 p4 p5 p6 p7 => ⟨(fa_cons rfl (fa_cons rfl (fa_cons rfl fa_nil))), (fa_cons ⟨.inl (Nat.le_of_ble_eq_true rfl), rfl, rfl⟩ (fa_cons ⟨.inl (Nat.le_of_ble_eq_true rfl), rfl, rfl⟩ (fa_cons ⟨.inl (Nat.le_of_ble_eq_true rfl), rfl, rfl⟩ fa_nil))), fa_nil, rfl⟩
  le := fun a => match a with
   | .n0 p0 p1 p2 p3 p4 p5 p6 p7 => Nat.le_of_ble_eq_true rfl
  rd := fun v => ⟨⟨fa_nil, fa_nil, fa_nil, rfl⟩, rfl⟩
  wb := rfl
theorem dmorg0_0 (a0 : Bool) (a1 a2 a3 a4 : Int) (a5 : Nat) (a6 a7 : Nat → Int) (a8 : Nat) (a9 a10 a11 a12 : Nat → Int) (a13 : Int) (p0 : Bool) (p1 p2 p3 p4 : Int) (p5 p6 : Nat) (p7 q0 q1 : Int) : AF.edgeOk (dmoA a0 a1 a2 a3 a4 a5 a6 a7 a8 a9 a10 a11 a12 a13) (ctxOf Try.prog memo0) (dmoRg0 a0 a1 a2 a3 a4 a5 a6 a7 a8 a9 a10 a11 a12 a13 p0 p1 p2 p3 p4 p5 p6 p7 (.r0 q0 q1)) (AF.runR (dmoA a0 a1 a2 a3 a4 a5 a6 a7 a8 a9 a10 a11 a12 a13) (ctxOf Try.prog (memoS 67 drcP drcF drcW drcH 2 (memoP 63 dshP dshF dshW dshH 2 memo0))) (.n0 p0 p1 p2 p3 p4 p5 p6 p7) (putH (dmos0A a0 a1 a2 a3 a4 a5 a6 a7 a8 a9 a10 a11 a12 a13 p0 p1 p2 p3 p4 p5 p6 p7).H0 ((dmos0A a0 a1 a2 a3 a4 a5 a6 a7 a8 a9 a10 a11 a12 a13 p0 p1 p2 p3 p4 p5 p6 p7).rh (.r0 q0 q1) ++ (dmos0A a0 a1 a2 a3 a4 a5 a6 a7 a8 a9 a10 a11 a12 a13 p0 p1 p2 p3 p4 p5 p6 p7).rx (.r0 q0 q1))) ((dmos0A a0 a1 a2 a3 a4 a5 a6 a7 a8 a9 a10 a11 a12 a13 p0 p1 p2 p3 p4 p5 p6 p7).rn (.r0 q0 q1)) ⟨mkT [(5, .ptr (some (2, 0))), (10, .ptr (some (3, 0))), (27, .fn (.func 92) [] [.ptr (some (4, 0))])], 36, rgP (codeAt dmoCode [1, 1, 1, 1, 1, 0, 1, 0]), rgA (codeAt dmoCode [1, 1, 1, 1, 1, 0, 1, 0]), rgB (codeAt dmoCode [1, 1, 1, 1, 1, 0, 1, 0]), .ready, .none⟩ .normal) := by unfold AF.edgeOk; kernel_rfl
theorem dmorg0_1 (a0 : Bool) (a1 a2 a3 a4 : Int) (a5 : Nat) (a6 a7 : Nat → Int) (a8 : Nat) (a9 a10 a11 a12 : Nat → Int) (a13 : Int) (p0 : Bool) (p1 p2 p3 p4 : Int) (p5 p6 : Nat) (p7 q0 q1 : Int) : AF.edgeOk (dmoA a0 a1 a2 a3 a4 a5 a6 a7 a8 a9 a10 a11 a12 a13) (ctxOf Try.prog memo0) (dmoRg0 a0 a1 a2 a3 a4 a5 a6 a7 a8 a9 a10 a11 a12 a13 p0 p1 p2 p3 p4 p5 p6 p7 (.r1 q0 q1)) (AF.runR (dmoA a0 a1 a2 a3 a4 a5 a6 a7 a8 a9 a10 a11 a12 a13) (ctxOf Try.prog (memoS 67 drcP drcF drcW drcH 2 (memoP 63 dshP dshF dshW dshH 2 memo0))) (.n0 p0 p1 p2 p3 p4 p5 p6 p7) (putH (dmos0A a0 a1 a2 a3 a4 a5 a6 a7 a8 a9 a10 a11 a12 a13 p0 p1 p2 p3 p4 p5 p6 p7).H0 ((dmos0A a0 a1 a2 a3 a4 a5 a6 a7 a8 a9 a10 a11 a12 a13 p0 p1 p2 p3 p4 p5 p6 p7).rh (.r1 q0 q1) ++ (dmos0A a0 a1 a2 a3 a4 a5 a6 a7 a8 a9 a10 a11 a12 a13 p0 p1 p2 p3 p4 p5 p6 p7).rx (.r1 q0 q1))) ((dmos0A a0 a1 a2 a3 a4 a5 a6 a7 a8 a9 a10 a11 a12 a13 p0 p1 p2 p3 p4 p5 p6 p7).rn (.r1 q0 q1)) ⟨mkT [(5, .ptr (some (2, 0))), (10, .ptr (some (3, 0))), (27, .fn (.func 92) [] [.ptr (some (4, 0))])], 36, rgP (codeAt dmoCode [1, 1, 1, 1, 1, 0, 1, 0]), rgA (codeAt dmoCode [1, 1, 1, 1, 1, 0, 1, 0]), rgB (codeAt dmoCode [1, 1, 1, 1, 1, 0, 1, 0]), .done, (.some (.exit 0))⟩ (.exit 0)) := by unfold AF.edgeOk; kernel_rfl
theorem dmorg0 (a0 : Bool) (a1 a2 a3 a4 : Int) (a5 : Nat) (a6 a7 : Nat → Int) (a8 : Nat) (a9 a10 a11 a12 : Nat → Int) (a13 : Int) (p0 : Bool) (p1 p2 p3 p4 : Int) (p5 p6 : Nat) (p7 : Int) : AF.Rg (dmoA a0 a1 a2 a3 a4 a5 a6 a7 a8 a9 a10 a11 a12 a13) (dmos0A a0 a1 a2 a3 a4 a5 a6 a7 a8 a9 a10 a11 a12 a13 p0 p1 p2 p3 p4 p5 p6 p7) Try.prog (ctxOf Try.prog (memoS 67 drcP drcF drcW drcH 2 (memoP 63 dshP dshF dshW dshH 2 memo0))) (ctxOf Try.prog (memoS 67 drcP drcF drcW drcH 2 (memoP 63 dshP dshF dshW dshH 2 memo0))) (.n0 p0 p1 p2 p3 p4 p5 p6 p7) (rgF (codeAt dmoCode [1, 1, 1, 1, 1, 0, 1, 0])) (rgP (codeAt dmoCode [1, 1, 1, 1, 1, 0, 1, 0])) (rgA (codeAt dmoCode [1, 1, 1, 1, 1, 0, 1, 0])) (rgB (codeAt dmoCode [1, 1, 1, 1, 1, 0, 1, 0])) 92 Try.f92 [] [.ptr (some (4, 0))] (fun v => match v with
   | .r0 q0 q1 => ⟨mkT [(5, .ptr (some (2, 0))), (10, .ptr (some (3, 0))), (27, .fn (.func 92) [] [.ptr (some (4, 0))])], 36, rgP (codeAt dmoCode [1, 1, 1, 1, 1, 0, 1, 0]), rgA (codeAt dmoCode [1, 1, 1, 1, 1, 0, 1, 0]), rgB (codeAt dmoCode [1, 1, 1, 1, 1, 0, 1, 0]), .ready, .none⟩
   | .r1 q0 q1 => ⟨mkT [(5, .ptr (some (2, 0))), (10, .ptr (some (3, 0))), (27, .fn (.func 92) [] [.ptr (some (4, 0))])], 36, rgP (codeAt dmoCode [1, 1, 1, 1, 1, 0, 1, 0]), rgA (codeAt dmoCode [1, 1, 1, 1, 1, 0, 1, 0]), rgB (codeAt dmoCode [1, 1, 1, 1, 1, 0, 1, 0]), .done, (.some (.exit 0))⟩) (fun v => match v with
   | .r0 q0 q1 => .normal
   | .r1 q0 q1 => (.exit 0)) (dmoRg0 a0 a1 a2 a3 a4 a5 a6 a7 a8 a9 a10 a11 a12 a13 p0 p1 p2 p3 p4 p5 p6 p7) where
  code := by kernel_rfl
  fn := by kernel_rfl
  args := rfl
  base := rfl
  h0 := rfl
  W := rfl
  gfn := Try.func92
  body := rfl
  nt := rfl
  len := Nat.le_of_ble_eq_true rfl
  res := rfl
  ok := dmos0ok a0 a1 a2 a3 a4 a5 a6 a7 a8 a9 a10 a11 a12 a13 p0 p1 p2 p3 p4 p5 p6 p7
  le := fun v => match v with
   | .r0 q0 q1 => Nat.le_of_ble_eq_true rfl
   | .r1 q0 q1 => Nat.le_of_ble_eq_true rfl
  lt := fun v => match v with
   | .r0 q0 q1 => rfl
   | .r1 q0 q1 => rfl
  rcd := fun v => match v with
   | .r0 q0 q1 => rfl
   | .r1 q0 q1 => rfl
  st := fun v => match v with
   | .r0 q0 q1 => (fun h => LoopState.noConfusion h)
   | .r1 q0 q1 => (fun h => LoopState.noConfusion h)
  exd := fun v => match v with
   | .r0 q0 q1 => rfl
   | .r1 q0 q1 => rfl
  D := fun v => match v with
   | .r0 q0 q1 => dmorg0_0 a0 a1 a2 a3 a4 a5 a6 a7 a8 a9 a10 a11 a12 a13 p0 p1 p2 p3 p4 p5 p6 p7 q0 q1
   | .r1 q0 q1 => dmorg0_1 a0 a1 a2 a3 a4 a5 a6 a7 a8 a9 a10 a11 a12 a13 p0 p1 p2 p3 p4 p5 p6 p7 q0 q1
theorem dmohR {ρ : Env} (a0 : Bool) (a1 a2 a3 a4 : Int) (a5 : Nat) (a6 a7 : Nat → Int) (a8 : Nat) (a9 a10 a11 a12 : Nat → Int) (a13 : Int) (hM : MemoOk Try.prog (ctxOf Try.prog (memoS 67 drcP drcF drcW drcH 2 (memoP 63 dshP dshF dshW dshH 2 memo0))) ρ) : ∀ X a q n D, FxOk ρ X → X.base = (dmoA a0 a1 a2 a3 a4 a5 a6 a7 a8 a9 a10 a11 a12 a13).base → X.nt = (dmoA a0 a1 a2 a3 a4 a5 a6 a7 a8 a9 a10 a11 a12 a13).nt → X.W = (dmoA a0 a1 a2 a3 a4 a5 a6 a7 a8 a9 a10 a11 a12 a13).W → (dmoA a0 a1 a2 a3 a4 a5 a6 a7 a8 a9 a10 a11 a12 a13).rgo a = some q → q n = some D → (dmoA a0 a1 a2 a3 a4 a5 a6 a7 a8 a9 a10 a11 a12 a13).RangeOk Try.prog ρ X a D := by
  intro X a q n D h1 h2 h3 h4 hq hD
  cases a with
  | n0 p0 p1 p2 p3 p4 p5 p6 p7 =>
    have e := Option.some.inj hq
    subst e
    exact AF.range_ok (n := n) try_ok hM hM (dmook a0 a1 a2 a3 a4 a5 a6 a7 a8 a9 a10 a11 a12 a13) (dmorg0 a0 a1 a2 a3 a4 a5 a6 a7 a8 a9 a10 a11 a12 a13 p0 p1 p2 p3 p4 p5 p6 p7) (dmos0hR a0 a1 a2 a3 a4 a5 a6 a7 a8 a9 a10 a11 a12 a13 p0 p1 p2 p3 p4 p5 p6 p7 hM) h1 h2 h3 h4 hD
theorem dmoctr {ρ : Env} (a0 : Bool) (a1 a2 a3 a4 : Int) (a5 : Nat) (a6 a7 : Nat → Int) (a8 : Nat) (a9 a10 a11 a12 : Nat → Int) (a13 : Int) {n : Nat} {v : dmoR} (hM : MemoOk Try.prog (ctxOf Try.prog (memoS 67 drcP drcF drcW drcH 2 (memoP 63 dshP dshF dshW dshH 2 memo0))) ρ) (hv : (dmoA a0 a1 a2 a3 a4 a5 a6 a7 a8 a9 a10 a11 a12 a13).run n = some v) :
    Ctr Try.prog ρ 30 (dmoA a0 a1 a2 a3 a4 a5 a6 a7 a8 a9 a10 a11 a12 a13).args (dmoA a0 a1 a2 a3 a4 a5 a6 a7 a8 a9 a10 a11 a12 a13).H0 (dmoA a0 a1 a2 a3 a4 a5 a6 a7 a8 a9 a10 a11 a12 a13).base (dmoA a0 a1 a2 a3 a4 a5 a6 a7 a8 a9 a10 a11 a12 a13).W ((dmoA a0 a1 a2 a3 a4 a5 a6 a7 a8 a9 a10 a11 a12 a13).rc v) (putH (dmoA a0 a1 a2 a3 a4 a5 a6 a7 a8 a9 a10 a11 a12 a13).H0 ((dmoA a0 a1 a2 a3 a4 a5 a6 a7 a8 a9 a10 a11 a12 a13).rh v ++ (dmoA a0 a1 a2 a3 a4 a5 a6 a7 a8 a9 a10 a11 a12 a13).rx v)) ((dmoA a0 a1 a2 a3 a4 a5 a6 a7 a8 a9 a10 a11 a12 a13).rn v) :=
  AF.ctr try_ok hM (dmook a0 a1 a2 a3 a4 a5 a6 a7 a8 a9 a10 a11 a12 a13) (fn := Try.f30) Try.func30 rfl rfl (Nat.le_of_ble_eq_true rfl) rfl (dmohR a0 a1 a2 a3 a4 a5 a6 a7 a8 a9 a10 a11 a12 a13 hM) hv
theorem dmomem {ρ : Env} : MemoOk Try.prog (ctxOf Try.prog (memoS 67 drcP drcF drcW drcH 2 (memoP 63 dshP dshF dshW dshH 2 memo0))) ρ := (memoS_ok (drcknown drcmem) (memoP_ok (dshknown dshmem) memo0_ok))
abbrev dmoP : List AQ := [.agg [.bool, .int .i64, .int .i64, .int .i64, .int .i64, .rows [some .i64, some .i64]], .rows [some .i64, some .i64, some .i64, some .i64], .int .i64]
noncomputable def dmoF (v : AW) : AF dmoN dmoR := dmoA (v.b.getD 0 false) (v.i.getD 0 0) (v.i.getD 1 0) (v.i.getD 2 0) (v.i.getD 3 0) (v.t.getD 0 .none).n ((v.t.getD 0 .none).c 0) ((v.t.getD 0 .none).c 1) (v.t.getD 1 .none).n ((v.t.getD 1 .none).c 0) ((v.t.getD 1 .none).c 1) ((v.t.getD 1 .none).c 2) ((v.t.getD 1 .none).c 3) (v.i.getD 4 0)
noncomputable def dmoW : dmoR → CV := fun v => .tup [.int .i64 (.x v.1), .int .i64 (.x v.2)]
noncomputable def dmoH : dmoR → List (Nat × Blk) := fun v => []
instance : Inhabited dmoR := ⟨(0, 0)⟩
theorem dmoknown {ρ : Env} (hM : MemoOk Try.prog (ctxOf Try.prog (memoS 67 drcP drcF drcW drcH 2 (memoP 63 dshP dshF dshW dshH 2 memo0))) ρ) : KnownS Try.prog ρ 30 dmoP dmoF dmoW dmoH 2 where
  fn := ⟨Try.f30, Try.func30, rfl⟩
  le := Nat.le_of_ble_eq_true rfl
  full := fun r => rfl
  rg := fun r => rfl
  hg := fun r => fa_nil
  ctr := fun v n r h => dmoctr (v.b.getD 0 false) (v.i.getD 0 0) (v.i.getD 1 0) (v.i.getD 2 0) (v.i.getD 3 0) (v.t.getD 0 .none).n ((v.t.getD 0 .none).c 0) ((v.t.getD 0 .none).c 1) (v.t.getD 1 .none).n ((v.t.getD 1 .none).c 0) ((v.t.getD 1 .none).c 1) ((v.t.getD 1 .none).c 2) ((v.t.getD 1 .none).c 3) (v.i.getD 4 0) hM h
end Go.Proofs.Ythagjhadjpangaa.Cx

/- acme/acmeref07.Fewest as an automaton. Made by tools/cxauto.py. -/
namespace Go.Proofs.Ythagjhadjpangaa.Cx
set_option linter.unusedVariables false
set_option linter.unusedSimpArgs false
set_option maxRecDepth 100000
open Go Go.Proofs Go.RowKit
noncomputable abbrev rdfCode : Code := funcCode Try.f74
inductive rdfN where
  | n0 (p0 : Nat) (p1 : Int) (p2 : Nat → Int)
  | n1 (p0 p1 : Nat) (p2 p3 p4 : Int) (p5 : Nat) (p6 : Nat → Int)
abbrev rdfR := Nat × (Nat → Int)
noncomputable def rdfD0 (a0 : Bool) (a1 a2 a3 a4 : Int) (a5 : Nat) (a6 a7 : Nat → Int) (a8 : Nat) (a9 a10 a11 a12 : Nat → Int) : DD (Lf rdfN rdfR) :=
 .leaf (.next (.n0 1 1 (fun i => 0)) [2, 3])

noncomputable def rdfD (a0 : Bool) (a1 a2 a3 a4 : Int) (a5 : Nat) (a6 a7 : Nat → Int) (a8 : Nat) (a9 a10 a11 a12 : Nat → Int) : rdfN → DD (Lf rdfN rdfR)
 | .n0 p0 p1 p2 =>
 let z0 := fun i => [CV.int IntKind.i64 (IE.x (a9 (0 + i))), CV.int IntKind.i64 (IE.x (a10 (0 + i))), CV.int IntKind.i64 (IE.x (a11 (0 + i))), CV.int IntKind.i64 (IE.x (a12 (0 + i)))]
 let z1 := rdaA a8 (fun i => a9 (0 + i)) (fun i => a10 (0 + i)) (fun i => a11 (0 + i)) (fun i => a12 (0 + i))
 .must (decide (0 + a8 ≤ a8))
   (.must (ShapeOk [some IntKind.i64, some IntKind.i64, some IntKind.i64, some IntKind.i64] (tabOf a8 z0) z0)
   (.must (AF.fin z1)
   (.ask (Cm.run .leq p1 (AF.val z1))
   (.leaf (.next (.n1 p0 p0 p1 1000000 (Ar.run .sub .i64 p1 1) p0 (fun i => p2 i)) [2, 3]))
   (.leaf (.done (p0, (fun i => p2 i)) [3])))))
 | .n1 p0 p1 p2 p3 p4 p5 p6 =>
 let z0 := decide (0 ≤ p4)
 let z1 := decide (0 + Int.toNat p4 < p5)
 let z2 := p6 (0 + Int.toNat p4)
 let z3 := fun i => [CV.int IntKind.i64 (IE.x (a6 (0 + i))), CV.int IntKind.i64 (IE.x (a7 (0 + i)))]
 let z4 := fun i => [CV.int IntKind.i64 (IE.x (a9 (0 + i))), CV.int IntKind.i64 (IE.x (a10 (0 + i))), CV.int IntKind.i64 (IE.x (a11 (0 + i))), CV.int IntKind.i64 (IE.x (a12 (0 + i)))]
 let z5 := rdtA a0 a1 a2 a3 a4 a5 (fun i => a6 (0 + i)) (fun i => a7 (0 + i)) a8 (fun i => a9 (0 + i)) (fun i => a10 (0 + i)) (fun i => a11 (0 + i)) (fun i => a12 (0 + i)) p4 p2
 let z6 := AF.val z5
 let z7 := Ar.run .sub .i64 p4 1
 .ask (Cm.run .geq p4 0)
   (.must z0
   (.must (decide (p4 < (↑p0 : Int)))
   (.must z1
   (.ask (Cm.run .lss z2 1000000)
   (.must (decide (0 + a5 ≤ a5))
   (.must (ShapeOk [some IntKind.i64, some IntKind.i64] (tabOf a5 z3) z3)
   (.must (decide (0 + a8 ≤ a8))
   (.must (ShapeOk [some IntKind.i64, some IntKind.i64, some IntKind.i64, some IntKind.i64] (tabOf a8 z4) z4)
   (.must (AF.fin z5)
   (.ask (Cm.run .leq (Prod.fst z6) (Prod.snd z6))
   (.must z0
   (.must (decide (p4 < (↑p0 : Int)))
   (.must z1
   (.leaf (.next (.n1 p0 p1 p2 (Ar.run .mn .i64 p3 (Ar.run .add .i64 z2 1)) z7 p5 (fun i => p6 i)) [2, 3])))))
   (.leaf (.next (.n1 p0 p1 p2 p3 z7 p5 (fun i => p6 i)) [2, 3]))))))))
   (.leaf (.next (.n1 p0 p1 p2 p3 z7 p5 (fun i => p6 i)) [2, 3]))))))
   (.must (decide (0 + p0 ≤ p5))
   (.must (decide (p0 + 1 ≤ 10000))
   (.leaf (.next (.n0 (p0 + 1) (Ar.run .add .i64 p2 1) (fun i => bif Nat.blt i p0 then p6 (0 + i) else p3)) [2, 5]))))

noncomputable def rdfA (a0 : Bool) (a1 a2 a3 a4 : Int) (a5 : Nat) (a6 a7 : Nat → Int) (a8 : Nat) (a9 a10 a11 a12 : Nat → Int) : AF rdfN rdfR where
  code := rdfCode
  base := 2
  nt := 46
  m := 400
  un := []
  W := []
  h0 := [(0, ⟨.arg a5 2 (fun i => [.int .i64 (.x (a6 i)), .int .i64 (.x (a7 i))]) (fun _ => ⟨rfl, rfl⟩), 2, true, none⟩), (1, ⟨.arg a8 4 (fun i => [.int .i64 (.x (a9 i)), .int .i64 (.x (a10 i)), .int .i64 (.x (a11 i)), .int .i64 (.x (a12 i))]) (fun _ => ⟨rfl, rfl⟩), 4, true, none⟩)]
  args := [.agg [.bool (.x a0), .int .i64 (.x a1), .int .i64 (.x a2), .int .i64 (.x a3), .int .i64 (.x a4), .sla 0 2 0 a5], .sla 1 4 0 a8]
  res := (Try.f74).results.toList
  path := fun a => match a with
   | .n0 p0 p1 p2 => [1, 1, 0, 1, 0]
   | .n1 p0 p1 p2 p3 p4 p5 p6 => [1, 1, 0, 1, 0, 0, 1, 0, 0, 1, 0, 1, 0]
  pd := fun a => match a with
   | .n0 p0 p1 p2 => ⟨[(1, .sla 1 4 0 a8), (2, .ptr (some (2, 0))), (5, .slx 3 1 0 p0 p0), (6, .int .i64 (.x p1))], [(2, ⟨.lit [.bool (.x a0), .int .i64 (.x a1), .int .i64 (.x a2), .int .i64 (.x a3), .int .i64 (.x a4), .sla 0 2 0 a5], 0, true, none⟩), (3, ⟨.rows p0 1 (fun i => [.int .i64 (.x (p2 i))]) (fun _ => ⟨rfl, rfl⟩), 1, true, none⟩)], 4, []⟩
   | .n1 p0 p1 p2 p3 p4 p5 p6 => ⟨[(1, .sla 1 4 0 a8), (2, .ptr (some (2, 0))), (5, .slx 3 1 0 p0 p1), (6, .int .i64 (.x p2)), (7, .int .i64 (.x p3)), (8, .int .i64 (.x p4))], [(2, ⟨.lit [.bool (.x a0), .int .i64 (.x a1), .int .i64 (.x a2), .int .i64 (.x a3), .int .i64 (.x a4), .sla 0 2 0 a5], 0, true, none⟩), (3, ⟨.rows p5 1 (fun i => [.int .i64 (.x (p6 i))]) (fun _ => ⟨rfl, rfl⟩), 1, true, none⟩)], 4, []⟩
  D0 := rdfD0 a0 a1 a2 a3 a4 a5 a6 a7 a8 a9 a10 a11 a12
  D := rdfD a0 a1 a2 a3 a4 a5 a6 a7 a8 a9 a10 a11 a12
  rc := (fun v => .slx 2 1 0 v.1 v.1)
  rh := (fun v => [(2, ⟨.rows v.1 1 (fun i => [.int .i64 (.x (v.2 i))]) (fun _ => ⟨rfl, rfl⟩), 1, true, none⟩)])
  rn := (fun v => 3)
  rx := (fun v => [])
  rgo := (fun _ => none)
instance : Inhabited rdfR := ⟨(0, fun _ => 0)⟩
end Go.Proofs.Ythagjhadjpangaa.Cx

/- acme/acmeref07.Most as an automaton. Made by tools/cxauto.py. -/
namespace Go.Proofs.Ythagjhadjpangaa.Cx
set_option linter.unusedVariables false
set_option linter.unusedSimpArgs false
set_option maxRecDepth 100000
open Go Go.Proofs Go.RowKit
abbrev rdmR := Int
instance : Inhabited rdmR := ⟨0⟩
end Go.Proofs.Ythagjhadjpangaa.Cx

/- A CALL THAT IS KNOWN BY A RUN OF ITS OWN: the evaluator runs it once, in a small memory that holds its arguments' blocks; wherever the same arguments come up, with blocks that hold the same, it yields the same. So a long run is many short ones, each a theorem of its own. -/
namespace Go.Proofs.Ythagjhadjpangaa.Cx
set_option linter.unusedSimpArgs false
set_option linter.unusedVariables false
open Go Go.RowKit
mutual
/-- The same value, where block b is called β b. -/
def CV.eqv (β : Nat → Nat) (N : Nat) : CV → CV → Bool
  | .bool (.c a), .bool (.c b) => (a && b) || (!a && !b)
  | .int k (.c n), .int k' (.c m) => decide (k = k') && decide (n = m)
  | .ptr none, .ptr none => true
  | .ptr (some (b, o)), .ptr (some (b', o')) => Nat.blt b N && (Nat.beq (β b) b' && Nat.beq o o')
  | .slc none n c, .slc none n' c' => Nat.beq n n' && Nat.beq c c'
  | .slc (some (b, o)) n c, .slc (some (b', o')) n' c' => Nat.blt b N && (Nat.beq (β b) b' && (Nat.beq o o' && (Nat.beq n n' && Nat.beq c c')))
  | .emp, .emp => true
  | .agg l, .agg m => CV.eqvl β N l m
  | .tup l, .tup m => CV.eqvl β N l m
  | _, _ => false
def CV.eqvl (β : Nat → Nat) (N : Nat) : List CV → List CV → Bool
  | [], [] => true
  | c :: l, d :: m => CV.eqv β N c d && CV.eqvl β N l m
  | _, _ => false
end
section
variable {P : Program} {ρ : Env}
mutual
theorem CV.eqv_ok {β : Nat → Nat} {N : Nat} {σ τ : Mp} (hβ : ∀ b, b < N → τ b = σ (β b)) : ∀ (c d : CV) {v : Value}, CV.eqv β N c d = true → VR ρ σ d v → VR ρ τ c v := by
  intro c d v h hv
  unfold CV.eqv at h
  split at h
  · rename_i a b
    obtain rfl := hv.bool_inv
    have e : a = b := by cases a <;> cases b <;> first | rfl | cases h
    subst e
    exact .bool (.c a)
  · simp only [Bool.and_eq_true, decide_eq_true_eq] at h
    obtain ⟨rfl, rfl⟩ := h
    obtain rfl := hv.int_inv
    exact .int _ (.c _)
  · cases hv; exact .ptr0
  · rename_i b o b' o'
    simp only [Bool.and_eq_true] at h
    obtain ⟨h1, h2, h3⟩ := h
    obtain rfl := Nat.eq_of_beq_eq_true h2
    obtain rfl := Nat.eq_of_beq_eq_true h3
    cases hv with
    | ptr hl => exact .ptr ((hβ b (blt_lt h1)).trans hl)
  · simp only [Bool.and_eq_true] at h
    obtain ⟨h1, h2⟩ := h
    obtain rfl := Nat.eq_of_beq_eq_true h1
    obtain rfl := Nat.eq_of_beq_eq_true h2
    cases hv; exact .slc0
  · rename_i b o n c b' o' n' c'
    simp only [Bool.and_eq_true] at h
    obtain ⟨h1, h2, h3, h4, h5⟩ := h
    obtain rfl := Nat.eq_of_beq_eq_true h2
    obtain rfl := Nat.eq_of_beq_eq_true h3
    obtain rfl := Nat.eq_of_beq_eq_true h4
    obtain rfl := Nat.eq_of_beq_eq_true h5
    cases hv with
    | slc hl hc hs => exact .slc ((hβ b (blt_lt h1)).trans hl) hc hs
  · cases hv; exact .emp _ _
  · rename_i l m
    obtain ⟨cs, rfl, h1⟩ := hv.agg_inv
    exact .agg (CV.eqvl_ok hβ l m h h1)
  · rename_i l m
    obtain ⟨cs, rfl, h1⟩ := hv.tup_inv
    exact .tup (CV.eqvl_ok hβ l m h h1)
  · cases h
theorem CV.eqvl_ok {β : Nat → Nat} {N : Nat} {σ τ : Mp} (hβ : ∀ b, b < N → τ b = σ (β b)) : ∀ (l m : List CV) {vs : List Value}, CV.eqvl β N l m = true → VRl ρ σ m vs → VRl ρ τ l vs
  | [], [], _, _, hv => by cases hv; exact .nil
  | [], d :: m, _, h, _ => by unfold CV.eqvl at h; cases h
  | c :: l, [], _, h, _ => by unfold CV.eqvl at h; cases h
  | c :: l, d :: m, _, h, hv => by
    unfold CV.eqvl at h
    simp only [Bool.and_eq_true] at h
    cases hv with
    | cons h1 t1 => exact .cons (CV.eqv_ok hβ c d h.1 h1) (CV.eqvl_ok hβ l m h.2 t1)
end
abbrev KBlk := List CV × Nat
def KBlk.blk (x : KBlk) : Blk := ⟨.lit x.1, x.2, true, none⟩
noncomputable def hB : List KBlk → Nat → Tr Blk
  | [], _ => .nil
  | x :: l, q => (hB l (q + 1)).set q (KBlk.blk x)
theorem hB_get (i : Nat) : ∀ (l : List KBlk) (q : Nat) (k : Blk), (hB l q).get i = some k → ∃ j x, i = q + j ∧ l[j]? = some x ∧ k = KBlk.blk x
  | [], q, k, h => by simp [hB, Tr.get_nil] at h
  | x :: l, q, k, h => by
    simp only [hB, Tr.get_set] at h
    by_cases hi : i = q
    · rw [if_pos hi] at h
      cases h
      exact ⟨0, x, by omega, rfl, rfl⟩
    · rw [if_neg hi] at h
      obtain ⟨j, x', h1, h2, h3⟩ := hB_get i l (q + 1) k h
      exact ⟨j + 1, x', by omega, by simpa using h2, h3⟩
def nodB : List Nat → Bool
  | [] => true
  | b :: l => !(l.any (Nat.beq b)) && nodB l
theorem nodB_ok : ∀ {l : List Nat}, nodB l = true → ∀ (i j b : Nat), l[i]? = some b → l[j]? = some b → i = j
  | [], _, i, j, b, h, _ => by simp at h
  | c :: l, h, i, j, b, hi, hj => by
    unfold nodB at h
    simp only [Bool.and_eq_true, Bool.not_eq_true'] at h
    have no : ∀ j : Nat, l[j]? = some c → False := fun j hj => by
      have := List.any_eq_false.1 h.1 c (List.mem_of_getElem? hj)
      exact this (Nat.beq_refl c)
    cases i with
    | zero =>
      cases j with
      | zero => rfl
      | succ j =>
        have e0 : c = b := by simpa using hi
        subst e0
        exact (no j (by simpa using hj)).elim
    | succ i =>
      cases j with
      | zero =>
        have e0 : c = b := by simpa using hj
        subst e0
        exact (no i (by simpa using hi)).elim
      | succ j => exact congrArg Nat.succ (nodB_ok h.2 i j b (by simpa using hi) (by simpa using hj))
/-- A call: its arguments, their blocks, what it yields, the blocks that it makes and that matter (how the run calls them): they are numbered behind the arguments' blocks. -/
structure KCall where
  g : Nat
  args : List CV
  blks : List KBlk
  c : CV
  new : List (Nat × KBlk)
def KCall.n1 (K : KCall) : Nat := K.blks.length + K.new.length
/-- What the run calls a block. -/
def KCall.old (K : KCall) (b : Nat) : Nat := bif Nat.blt b K.blks.length then b else match K.new[b - K.blks.length]? with | some x => x.1 | none => 0
noncomputable def KCall.h1 (K : KCall) : Tr Blk := hB (K.new.map (·.2)) K.blks.length
/-- The run says so. -/
noncomputable def KCall.says (K : KCall) : Option Out → Bool
  | some ⟨.val c', s1, _, []⟩ => (match s1.pc with | [] => true | _ => false) && (CV.eqv K.old K.n1 K.c c' && ((K.new.all fun x => (Nat.ble K.blks.length x.1 && Nat.blt x.1 s1.next) && match s1.heap.get x.1 with | some ⟨.lit l, e, true, none⟩ => CV.eqvl K.old K.n1 x.2.1 l && Nat.beq e x.2.2 | _ => false) && (nodB (K.new.map (·.1)) && K.blks.all fun x => CV.eqvl id K.blks.length x.1 x.1)))
  | _ => false
structure KCall.Ok (K : KCall) (P : Program) (ρ : Env) : Prop where
  fn : ∃ fn, P.funcs[K.g]? = some fn ∧ fn.body.isSome = true
  rg : K.c.rng K.blks.length K.n1 = true
  hg : ∀ x ∈ K.new, CV.rngl K.blks.length K.n1 x.2.1 = true
  ctr : Ctr P ρ K.g K.args (hB K.blks 0) K.blks.length [] K.c K.h1 K.n1
theorem KCall.of_run {K : KCall} (hP : progOk P = true) {memo : Memo} (hM : MemoOk P (ctxOf P memo) ρ) {m : Nat} (hf : (match P.funcs[K.g]? with | some fn => fn.body.isSome | none => false) = true)
    (h2 : K.c.rng K.blks.length K.n1 = true) (h3 : (K.new.all fun x => CV.rngl K.blks.length K.n1 x.2.1) = true)
    (h : K.says (eval (ctxOf P memo) m K.blks.length (.call K.g K.args) ⟨hB K.blks 0, K.blks.length, [], []⟩) = true) : K.Ok P ρ := by
  refine ⟨?_, h2, fun x hx => List.all_eq_true.1 h3 x hx, ?_, ?_⟩
  · split at hf
    · rename_i fn hfn; exact ⟨fn, hfn, hf⟩
    · cases hf
  · split at hf
    · rename_i fn hfn; exact ⟨fn, hfn, hf⟩
    · cases hf
  · intro n σ w args' ha hH hN
    generalize he : eval (ctxOf P memo) m K.blks.length (.call K.g K.args) ⟨hB K.blks 0, K.blks.length, [], []⟩ = r at h
    unfold KCall.says at h
    split at h
    · rename_i c' s1 R
      simp only [Bool.and_eq_true] at h
      obtain ⟨q1, q3, q4, q5, q6⟩ := h
      have hpc : s1.pc = [] := by
        split at q1
        · assumption
        · cases q1
      have k := (eval_ok (ρ := ρ) (ctxOf_ok hP memo) hM m).call _ _ _ _ _ _ _ _ he
      have := k.run n σ (curOf (hB K.blks 0) K.blks.length) w args' (by rw [hpc]; intro p hp; cases hp) ha hH (fun b hb => by
        rcases hb with hb | hb
        · have : b < K.blks.length := k.lt.1 b hb
          exact if_pos this
        · cases hb) (fun b hb _ => hN b hb)
      refine this.mono ?_
      rintro e' w' ⟨v, rfl, σ1, x1, x2, x3, x4, x5⟩
      have x1 : Ext σ σ1 K.blks.length s1.next := x1
      have x3 : HR ρ σ1 (upd (curOf (hB K.blks 0) K.blks.length) K.blks.length s1.next s1.heap []) w' := x3
      have x5 : Fresh σ σ1 K.blks.length s1.next K.blks.length [] w := x5
      have old0 : ∀ b, b < K.blks.length → K.old b = b := fun b hb => by
        unfold KCall.old
        rw [show Nat.blt b K.blks.length = true from Nat.ble_eq_true_of_le hb, cond_true]
      have old1 : ∀ b, ¬ b < K.blks.length → b < K.n1 → ∃ x, K.new[b - K.blks.length]? = some x ∧ K.old b = x.1 := fun b hb hb2 => by
        have hl : b - K.blks.length < K.new.length := by unfold KCall.n1 at hb2; omega
        refine ⟨_, List.getElem?_eq_getElem hl, ?_⟩
        unfold KCall.old
        have hbf : Nat.blt b K.blks.length = false := by
          cases hbb : Nat.blt b K.blks.length with
          | false => rfl
          | true => exact absurd (blt_lt hbb) hb
        rw [hbf, cond_false, List.getElem?_eq_getElem hl]
      have newOk : ∀ x ∈ K.new, (K.blks.length ≤ x.1 ∧ x.1 < s1.next) ∧ ∃ l, s1.heap.get x.1 = some ⟨.lit l, x.2.2, true, none⟩ ∧ CV.eqvl K.old K.n1 x.2.1 l = true := fun x hx => by
        have := List.all_eq_true.1 q4 x hx
        simp only [Bool.and_eq_true] at this
        obtain ⟨⟨g1, g2⟩, g3⟩ := this
        refine ⟨⟨Nat.le_of_ble_eq_true g1, blt_lt g2⟩, ?_⟩
        split at g3
        · rename_i l e hl
          simp only [Bool.and_eq_true] at g3
          obtain rfl := Nat.eq_of_beq_eq_true g3.2
          exact ⟨l, hl, g3.1⟩
        · cases g3
      obtain ⟨σ2, hσ2⟩ : ∃ σ2 : Mp, σ2 = fun b => if b < K.n1 then σ1 (K.old b) else none := ⟨_, rfl⟩
      have hβ : ∀ b, b < K.n1 → σ2 b = σ1 (K.old b) := fun b hb => by rw [hσ2]; exact if_pos hb
      have hle : K.blks.length ≤ K.n1 := by unfold KCall.n1; omega
      have hlow : ∀ b, b < K.blks.length → σ2 b = σ1 b := fun b hb => by rw [hβ b (by omega), old0 b hb]
      have get : ∀ b k, upd (curOf (hB K.blks 0) K.blks.length) K.blks.length K.n1 K.h1 [] b = some k → b < K.n1 ∧ (∃ k1, upd (curOf (hB K.blks 0) K.blks.length) K.blks.length s1.next s1.heap [] (K.old b) = some k1 ∧ k.live = k1.live ∧ k.esz = k1.esz ∧ k.ext = none ∧ k1.ro = false ∧ ∀ us, VRl ρ σ1 k1.cells us → VRl ρ σ2 k.cells us) := by
        intro b k hk
        by_cases hb : b < K.blks.length
        · refine ⟨by omega, ?_⟩
          unfold upd at hk ⊢
          rw [old0 b hb]
          rw [if_neg (by simp; omega)] at hk ⊢
          have hk2 : curOf (hB K.blks 0) K.blks.length b = some k := hk
          unfold curOf at hk2
          rw [if_pos hb] at hk2
          obtain ⟨j, x, rfl, g1, rfl⟩ := hB_get b K.blks 0 k hk2
          exact ⟨_, hk, rfl, rfl, rfl, rfl, fun us hus => CV.eqvl_ok (fun b hb => hlow b hb) _ _ (List.all_eq_true.1 q6 x (List.mem_of_getElem? g1)) hus⟩
        · by_cases hb2 : b < K.n1
          · refine ⟨hb2, ?_⟩
            unfold upd at hk
            rw [if_pos (.inr ⟨by omega, hb2⟩)] at hk
            have hk : (hB (K.new.map (·.2)) K.blks.length).get b = some k := hk
            obtain ⟨j, x, rfl, g1, rfl⟩ := hB_get b _ _ k hk
            rw [List.getElem?_map] at g1
            obtain ⟨y, hy, hyo⟩ := old1 (K.blks.length + j) hb hb2
            rw [Nat.add_sub_cancel_left] at hy
            rw [hy] at g1
            obtain rfl : y.2 = x := Option.some.inj g1
            obtain ⟨⟨r1, r2⟩, l, r3, r4⟩ := newOk y (List.mem_of_getElem? hy)
            refine ⟨⟨.lit l, y.2.2, true, none⟩, ?_, rfl, rfl, rfl, rfl, fun us hus => CV.eqvl_ok hβ _ _ r4 hus⟩
            unfold upd
            rw [hyo, if_pos (.inr ⟨r1, r2⟩)]
            exact r3
          · unfold upd at hk
            rw [if_neg (by simp; omega)] at hk
            unfold curOf at hk
            rw [if_neg hb] at hk
            cases hk
      have inj : ∀ b b', b < K.n1 → b' < K.n1 → K.old b = K.old b' → b = b' := by
        intro b b' hb hb' he
        by_cases h1 : b < K.blks.length
        · rw [old0 b h1] at he
          by_cases h2 : b' < K.blks.length
          · rw [old0 b' h2] at he; exact he
          · obtain ⟨y, hy, hyo⟩ := old1 b' h2 hb'
            have := (newOk y (List.mem_of_getElem? hy)).1.1
            omega
        · obtain ⟨x, hx, hxo⟩ := old1 b h1 hb
          by_cases h2 : b' < K.blks.length
          · rw [old0 b' h2] at he
            have := (newOk x (List.mem_of_getElem? hx)).1.1
            omega
          · obtain ⟨y, hy, hyo⟩ := old1 b' h2 hb'
            have := nodB_ok q5 (b - K.blks.length) (b' - K.blks.length) x.1 (by rw [List.getElem?_map, hx]; rfl) (by rw [List.getElem?_map, hy]; show some y.1 = some x.1; rw [← hyo, ← he, hxo])
            omega
      refine ⟨v, rfl, σ2, fun b hb => ?_, CV.eqv_ok hβ _ _ q3 x2, ?_, x4, fun b l b1 b2 b3 => ?_⟩
      · have hb : b < K.blks.length ∨ K.n1 ≤ b := hb
        rcases hb with hb | hb
        · rw [hlow b hb]; exact x1 b (.inl hb)
        · rw [hσ2, hN b (by omega)]; exact if_neg (by omega)
      · refine ⟨fun b k l a1 a2 a3 => ?_, fun b b' k k' l l' a1 a2 a3 a4 a5 a6 a7 a8 => ?_, fun b k x l a1 a2 a3 => ?_, fun b b' k k' x x' l l' a1 a2 a3 a4 a5 a6 a7 => ?_, fun y hy => ⟨(x3.glob y hy).1, fun b k l a1 a2 ar a3 => ?_⟩⟩
        · obtain ⟨hb, k1, g1, g2, g3, _, _, g5⟩ := get b k a1
          rw [hβ b hb] at a3
          obtain ⟨cs, t, p, r1, r2, r3, r4, r5, r6⟩ := x3.cell _ k1 l g1 (g2 ▸ a2) a3
          have r7 := g5 _ r6
          have hln : k.cells.length = k1.cells.length := r7.length.symm.trans r6.length
          exact ⟨cs, t, p, r1, fun _ => r2 (by assumption), r3, g3.trans r4, by rw [hln]; exact r5, by rw [hln]; exact r7⟩
        · obtain ⟨hb, k1, g1, g2, _, _, g4, _⟩ := get b k a1
          obtain ⟨hb', k1', g1', g2', _, _, g4', _⟩ := get b' k' a4
          rw [hβ b hb] at a3
          rw [hβ b' hb'] at a6
          exact inj b b' hb hb' (x3.inj _ _ k1 k1' l l' g1 (g2 ▸ a2) a3 g1' (g2' ▸ a5) a6 a7 (.inl g4))
        · obtain ⟨_, _, _, _, _, g, _⟩ := get b k a1
          rw [g] at a2; cases a2
        · obtain ⟨_, _, _, _, _, g, _⟩ := get b k a1
          rw [g] at a2; cases a2
        · obtain ⟨hb, k1, g1, g2, _, _, g4, _⟩ := get b k a1
          rw [hβ b hb] at a3
          exact (x3.glob y hy).2 _ k1 l g1 (g2 ▸ a2) g4 a3
      · have b2 : b < K.n1 := b2
        have hnb : ¬ b < K.blks.length := by have b1 : K.blks.length ≤ b := b1; omega
        rw [hβ b b2] at b3
        obtain ⟨y, hy, hyo⟩ := old1 b hnb b2
        obtain ⟨⟨r1, r2⟩, _⟩ := newOk y (List.mem_of_getElem? hy)
        rw [hyo] at b3
        exact x5 y.1 l r1 r2 b3
    · cases h
/-- The new blocks, by the numbers that they get. -/
def newL (q : Nat) : List (Nat × KBlk) → List (Nat × Blk)
  | [] => []
  | x :: l => (q, KBlk.blk x.2) :: newL (q + 1) l
def KCall.newB (K : KCall) : List (Nat × Blk) := newL K.blks.length K.new
theorem newL_mem : ∀ {l : List (Nat × KBlk)} {q : Nat} {y : Nat × Blk}, y ∈ newL q l → (q ≤ y.1 ∧ y.1 < q + l.length) ∧ ∃ x ∈ l, y.2 = KBlk.blk x.2
  | [], q, y, h => by cases h
  | x :: l, q, y, h => by
    rcases List.mem_cons.1 h with rfl | h
    · exact ⟨⟨Nat.le_refl _, by simp⟩, x, List.mem_cons_self .., rfl⟩
    · obtain ⟨⟨h1, h2⟩, z, hz, e⟩ := newL_mem h
      exact ⟨⟨by omega, by simp only [List.length_cons]; omega⟩, z, List.mem_cons_of_mem _ hz, e⟩
theorem newL_find : ∀ (l : List (Nat × KBlk)) (q b : Nat), (newL q l).find? (fun x => x.1 == b) = if q ≤ b then (l[b - q]?).map (fun x => (b, KBlk.blk x.2)) else none
  | [], q, b => by simp [newL]
  | x :: l, q, b => by
    rw [newL, List.find?_cons]
    by_cases h : q = b
    · subst h; simp
    · have hf : (q == b) = false := by simpa using h
      rw [hf, newL_find l (q + 1) b]
      by_cases h2 : q + 1 ≤ b
      · rw [if_pos h2, if_pos (by omega), show b - q = (b - (q + 1)) + 1 by omega, List.getElem?_cons_succ]
      · rw [if_neg h2, if_neg (by omega)]
theorem hB_at : ∀ (l : List KBlk) (q b : Nat), (hB l q).get b = if q ≤ b then (l[b - q]?).map KBlk.blk else none
  | [], q, b => by simp [hB, Tr.get_nil]
  | x :: l, q, b => by
    rw [hB, Tr.get_set]
    by_cases h : b = q
    · subst h; simp
    · rw [if_neg h, hB_at l (q + 1) b]
      by_cases h2 : q + 1 ≤ b
      · rw [if_pos h2, if_pos (by omega), show b - q = (b - (q + 1)) + 1 by omega, List.getElem?_cons_succ]
      · rw [if_neg h2, if_neg (by omega)]
/-! ## The memo -/
def insM (b b' : Nat) (m : List (Nat × Nat)) : List (Nat × Nat) := bif m.any (fun x => Nat.beq x.1 b) then m else (b, b') :: m
mutual
def CV.uni : CV → CV → List (Nat × Nat) → List (Nat × Nat)
  | .ptr (some (b, _)), .ptr (some (b', _)), m => insM b b' m
  | .slc (some (b, _)) _ _, .slc (some (b', _)) _ _, m => insM b b' m
  | .agg l, .agg l', m => CV.unil l l' m
  | .tup l, .tup l', m => CV.unil l l' m
  | _, _, m => m
def CV.unil : List CV → List CV → List (Nat × Nat) → List (Nat × Nat)
  | c :: l, d :: l', m => CV.unil l l' (CV.uni c d m)
  | _, _, m => m
end
def lookM (m : List (Nat × Nat)) (b : Nat) : Nat := match m.find? (fun x => Nat.beq x.1 b) with | some x => x.2 | none => 0
noncomputable def uniB (s : St) : List KBlk → Nat → List (Nat × Nat) → List (Nat × Nat)
  | [], _, m => m
  | x :: l, i, m => uniB s l (i + 1) (match s.heap.get (lookM m i) with | some ⟨.lit k, _, _, _⟩ => CV.unil x.1 k m | _ => m)
noncomputable def chkB (s : St) (β : Nat → Nat) (N : Nat) : List KBlk → Nat → Bool
  | [], _ => true
  | x :: l, i => (match s.heap.get (β i) with | some ⟨.lit k, e, true, none⟩ => CV.eqvl β N x.1 k && (Nat.beq e x.2 && Nat.blt (β i) s.next) | _ => false) && chkB s β N l (i + 1)
theorem chkB_ok {s : St} {β : Nat → Nat} {N : Nat} : ∀ {l : List KBlk} {q : Nat}, chkB s β N l q = true → ∀ j x, l[j]? = some x → ∃ k e, s.heap.get (β (q + j)) = some ⟨.lit k, e, true, none⟩ ∧ CV.eqvl β N x.1 k = true ∧ e = x.2 ∧ β (q + j) < s.next
  | [], q, _, j, x, h => by simp at h
  | y :: l, q, h, j, x, hx => by
    unfold chkB at h
    simp only [Bool.and_eq_true] at h
    obtain ⟨h1, h2⟩ := h
    cases j with
    | zero =>
      have e0 : y = x := by simpa using hx
      subst e0
      split at h1
      · rename_i k e hk
        simp only [Bool.and_eq_true] at h1
        exact ⟨k, e, hk, h1.1, Nat.eq_of_beq_eq_true h1.2.1, blt_lt h1.2.2⟩
      · cases h1
    | succ j =>
      have := chkB_ok h2 j x (by simpa using hx)
      rw [show q + 1 + j = q + (j + 1) by omega] at this
      exact this
/-- The names that the blocks have. -/
noncomputable def KCall.bs (K : KCall) (s : St) (args : List CV) : List Nat := (List.range K.blks.length).map (lookM (uniB s K.blks 0 (CV.unil K.args args [])))
def bOf (bs : List Nat) (i : Nat) : Nat := (bs[i]?).getD 0
noncomputable def KCall.fits (K : KCall) (s : St) (args : List CV) (bs : List Nat) : Bool :=
  CV.eqvl (bOf bs) K.blks.length K.args args && (chkB s (bOf bs) K.blks.length K.blks 0 && (nodB bs && Nat.beq bs.length K.blks.length))
noncomputable def memoK (K : KCall) (inner : Memo) : Memo := fun f args s =>
  bif Nat.beq f K.g && K.fits s args (K.bs s args) then
    some (K.c.ren (liftName K.blks.length s.next), { s with heap := putNew K.blks.length s.next s.heap K.newB, next := s.next + (K.n1 - K.blks.length) }, K.bs s args, [])
  else inner f args s
theorem memoK_ok {K : KCall} {inner : Memo} (hK : K.Ok P ρ) (hi : MemoOk P (ctxOf P inner) ρ) : MemoOk P (ctxOf P (memoK K inner)) ρ := by
  have lift : ∀ {f args s c s' R' W}, CallOk P (ctxOf P inner) ρ f args s c s' R' W → CallOk P (ctxOf P (memoK K inner)) ρ f args s c s' R' W := fun h => ⟨h.fn, h.frm, h.lt, h.run⟩
  intro f args s c s' R' W h0
  have h : memoK K inner f args s = some (c, s', R', W) := h0
  clear h0
  unfold memoK at h
  generalize hbs : K.bs s args = bs at h
  cases hf : (Nat.beq f K.g && K.fits s args bs) with
  | false => rw [hf, cond_false] at h; exact lift (hi _ _ _ _ _ _ _ h)
  | true =>
    rw [hf, cond_true] at h
    cases h
    simp only [Bool.and_eq_true, KCall.fits] at hf
    obtain ⟨f1, f2, f3, f4, f5⟩ := hf
    obtain rfl := Nat.eq_of_beq_eq_true f1
    have hlen := Nat.eq_of_beq_eq_true f5
    have hblk := chkB_ok f3
    have at' : ∀ i, i < K.blks.length → R'[i]? = some (bOf R' i) := fun i hi => by
      unfold bOf
      rw [List.getElem?_eq_getElem (by omega)]
      rfl
    have rngw : ∀ x ∈ K.newB, K.blks.length ≤ x.1 ∧ x.1 < K.n1 := fun x hx => (newL_mem hx).1
    refine Ctr.callS (base := K.blks.length) (n1 := K.n1) (args := K.args) (h0 := hB K.blks 0) (h1 := K.h1) (K := fun _ => hK.ctr) hK.fn (by unfold KCall.n1; omega) rfl ⟨[], rfl⟩ (fun b hb => ?_) (fun j hj kb hk => ?_) (fun b hb => ?_) (fun σ cur w l hp hl hH hcur => ?_) (fun σ σ2 v hl h => VR.lift hl h hK.rg)
    · show (putNew _ _ _ _).get b = _
      rw [get_putNew]
      split
      · rename_i x hx
        have h1 := List.find?_some hx
        have h2 := List.mem_of_find?_eq_some hx
        simp only [beq_iff_eq] at h1
        obtain ⟨q1, q2⟩ := rngw _ h2
        refine absurd ?_ hb
        show s.next ≤ b ∧ b < s.next + (K.n1 - K.blks.length)
        unfold liftName at h1
        omega
      · rfl
    · have hk : (putNew K.blks.length s.next s.heap K.newB).get (s.next + j) = some kb := hk
      rw [get_putNew] at hk
      have e : ∀ x ∈ K.newB, (liftName K.blks.length s.next x.1 == s.next + j) = (x.1 == K.blks.length + j) := fun x hx => by
        obtain ⟨q1, q2⟩ := rngw x hx
        unfold liftName
        rw [Bool.eq_iff_iff]
        simp only [beq_iff_eq]
        omega
      have hcg := find_congr e
      rw [hcg] at hk
      have hjl : j < K.new.length := by unfold KCall.n1 at hj; omega
      have hfd : K.newB.find? (fun x => x.1 == K.blks.length + j) = some (K.blks.length + j, KBlk.blk K.new[j].2) := by
        unfold KCall.newB
        rw [newL_find, if_pos (by omega), Nat.add_sub_cancel_left, List.getElem?_eq_getElem hjl]
        rfl
      rw [hfd] at hk
      cases hk
      have hmem : K.new[j] ∈ K.new := List.getElem_mem hjl
      have g1 := hK.hg _ hmem
      refine ⟨KBlk.blk K.new[j].2, ?_, rfl, rfl, rfl, fun h => rfl, fun σ σ2 us hl h => Blk.lift (k := KBlk.blk K.new[j].2) hl g1 h⟩
      unfold KCall.h1
      rw [hB_at, if_pos (by omega), Nat.add_sub_cancel_left, List.getElem?_map, List.getElem?_eq_getElem hjl]
      rfl
    · obtain ⟨i, hi'⟩ := List.getElem?_of_mem hb
      have hil : i < K.blks.length := by
        have := (List.getElem?_eq_some_iff.1 hi').1
        omega
      obtain ⟨k, e, _, _, _, q⟩ := hblk i _ (List.getElem?_eq_getElem hil)
      rw [Nat.zero_add] at q
      have := at' i hil
      rw [hi'] at this
      rw [Option.some.inj this]; exact q
    · have hτ : ∀ b, b < K.blks.length → (fun i => if i < K.blks.length then σ (bOf R' i) else none) b = σ (bOf R' b) := fun b hb => if_pos hb
      refine ⟨fun i => if i < K.blks.length then σ (bOf R' i) else none, CV.eqvl_ok hτ _ _ f2 hl, ?_, fun b hb => if_neg (by omega)⟩
      have get : ∀ b k, curOf (hB K.blks 0) K.blks.length b = some k → ∃ x k1, b < K.blks.length ∧ k = KBlk.blk x ∧ cur (bOf R' b) = some ⟨.lit k1, x.2, true, none⟩ ∧ ∀ us, VRl ρ σ k1 us → VRl ρ (fun i => if i < K.blks.length then σ (bOf R' i) else none) x.1 us := by
        intro b k hk
        unfold curOf at hk
        split at hk
        · rename_i hb
          obtain ⟨j, x, rfl, g1, rfl⟩ := hB_get b K.blks 0 k hk
          obtain ⟨k1, e, c1, c2, rfl, c4⟩ := hblk j x g1
          have hm : bOf R' (0 + j) ∈ R' := List.mem_of_getElem? (at' _ hb)
          exact ⟨x, k1, hb, rfl, (hcur _ hm).trans c1, fun us hus => CV.eqvl_ok hτ _ _ c2 hus⟩
        · cases hk
      refine ⟨fun b k l a1 a2 a3 => ?_, fun b b' k k' l l' a1 a2 a3 a4 a5 a6 a7 a8 => ?_, fun b k x l a1 a2 a3 => ?_, fun b b' k k' x x' l l' a1 a2 a3 a4 a5 a6 a7 => ?_, fun y hy => ⟨(hH.glob y hy).1, fun b k l a1 a2 ar a3 => ?_⟩⟩
      · obtain ⟨x, k1, hb, rfl, q1, q2⟩ := get b k a1
        have a3 : (if b < K.blks.length then σ (bOf R' b) else none) = some l := a3
        rw [if_pos hb] at a3
        obtain ⟨cs, t, p, r1, r2, r3, r4, r5, r6⟩ := hH.cell _ _ l q1 rfl a3
        have r7 := q2 _ r6
        have r6l := r6.length
        have r7l := r7.length
        have e1 : Blk.cells ⟨.lit k1, x.2, true, none⟩ = k1 := rfl
        have e2 : Blk.cells (KBlk.blk x) = x.1 := rfl
        rw [e1] at r5 r6 r7 r7l r6l
        have hln : x.1.length = k1.length := r7l.symm.trans r6l
        exact ⟨cs, t, p, r1, fun _ => r2 rfl, r3, r4, by rw [e2, hln]; exact r5, by rw [e2, hln]; exact r7⟩
      · obtain ⟨x, k1, hb, rfl, q1, _⟩ := get b k a1
        obtain ⟨x', k1', hb', rfl, q1', _⟩ := get b' k' a4
        have a3 : (if b < K.blks.length then σ (bOf R' b) else none) = some l := a3
        have a6 : (if b' < K.blks.length then σ (bOf R' b') else none) = some l' := a6
        rw [if_pos hb] at a3
        rw [if_pos hb'] at a6
        have := hH.inj _ _ _ _ l l' q1 rfl a3 q1' rfl a6 a7 (.inl rfl)
        exact nodB_ok f4 b b' _ (at' b hb) (by rw [this]; exact at' b' hb')
      · obtain ⟨x', k1, hb, rfl, _⟩ := get b k a1
        cases a2
      · obtain ⟨x', k1, hb, rfl, _⟩ := get b k a1
        cases a2
      · obtain ⟨x', k1, hb, rfl, q1, _⟩ := get b k a1
        have a3 : (if b < K.blks.length then σ (bOf R' b) else none) = some l := a3
        rw [if_pos hb] at a3
        exact (hH.glob y hy).2 _ _ l q1 rfl rfl a3
end
end Go.Proofs.Ythagjhadjpangaa.Cx
