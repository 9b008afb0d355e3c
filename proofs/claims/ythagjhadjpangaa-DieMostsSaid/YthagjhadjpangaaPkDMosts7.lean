/- acme/die.Wear as an automaton. Made by tools/cxauto.py. -/
import Derived.Test.YthagjhadjpangaaPkDMosts6

namespace Go.Proofs.Ythagjhadjpangaa.Cx
set_option linter.unusedVariables false
set_option linter.unusedSimpArgs false
set_option maxRecDepth 100000
open Go Go.Proofs Go.RowKit
noncomputable abbrev dweCode : Code := funcCode Try.f18
noncomputable abbrev dwes0Code : Code := funcCode Try.f87
inductive dwes0N where
  | n0 (q0 q1 q2 q3 : Int)
inductive dwes0R where
  | r0 (q0 q1 : Int)
noncomputable def dwes0D0 (a0 : Bool) (a1 a2 a3 a4 : Int) (a5 : Nat) (a6 a7 : Nat → Int) (a8 : Nat) (a9 a10 a11 a12 : Nat → Int) (a13 a14 : Int) (p0 : Bool) (p1 p2 p3 p4 : Int) (p5 p6 : Nat) (p7 : Int) : DD (Lf dwes0N dwes0R) :=
 .leaf (.next (.n0 0 0 0 0) [])

noncomputable def dwes0D (a0 : Bool) (a1 a2 a3 a4 : Int) (a5 : Nat) (a6 a7 : Nat → Int) (a8 : Nat) (a9 a10 a11 a12 : Nat → Int) (a13 a14 : Int) (p0 : Bool) (p1 p2 p3 p4 : Int) (p5 p6 : Nat) (p7 : Int) : dwes0N → DD (Lf dwes0N dwes0R)
 | .n0 q0 q1 q2 q3 =>
 let z0 := Ar.run .add .i64 q0 (a9 (0 + Int.toNat q1))
 let z1 := Ar.run .sub .i64 (Ar.run .mn .i64 z0 a14) (Ar.run .mx .i64 q0 a13)
 let z2 := fun i => [CV.int IntKind.i64 (IE.x (a6 (0 + i))), CV.int IntKind.i64 (IE.x (a7 (0 + i)))]
 let z3 := fun i => [CV.int IntKind.i64 (IE.x (a9 (0 + i))), CV.int IntKind.i64 (IE.x (a10 (0 + i))), CV.int IntKind.i64 (IE.x (a11 (0 + i))), CV.int IntKind.i64 (IE.x (a12 (0 + i)))]
 let z4 := dwoA p0 p1 p2 p3 p4 p5 (fun i => a6 (0 + i)) (fun i => a7 (0 + i)) p6 (fun i => a9 (0 + i)) (fun i => a10 (0 + i)) (fun i => a11 (0 + i)) (fun i => a12 (0 + i)) p7 q2 q3 (a10 (0 + Int.toNat q1)) z1
 let z5 := Ar.run .add .i64 q1 1
 let z6 := AF.val z4
 .ask (Cm.run .lss q1 (↑p6 : Int))
   (.must (decide (0 ≤ q1))
   (.must (decide (q1 < (↑p6 : Int)))
   (.must (decide (0 + Int.toNat q1 < a8))
   (.ask (Cm.run .gtr z1 0)
   (.must (decide (0 + p5 ≤ a5))
   (.must (ShapeOk [some IntKind.i64, some IntKind.i64] (tabOf p5 z2) z2)
   (.must (decide (0 + p6 ≤ a8))
   (.must (ShapeOk [some IntKind.i64, some IntKind.i64, some IntKind.i64, some IntKind.i64] (tabOf p6 z3) z3)
   (.must (AF.fin z4)
   (.leaf (.next (.n0 z0 z5 (Prod.fst z6) (Prod.snd z6)) [])))))))
   (.leaf (.next (.n0 z0 z5 q2 q3) []))))))
   (.leaf (.done (.r0 q2 q3) []))

noncomputable def dwes0A (a0 : Bool) (a1 a2 a3 a4 : Int) (a5 : Nat) (a6 a7 : Nat → Int) (a8 : Nat) (a9 a10 a11 a12 : Nat → Int) (a13 a14 : Int) (p0 : Bool) (p1 p2 p3 p4 : Int) (p5 p6 : Nat) (p7 : Int) : AF dwes0N dwes0R where
  code := dwes0Code
  base := 9
  nt := 40
  m := 400
  un := []
  W := [4, 8]
  h0 := ((8, recB (mkT [(8, .ptr (some (2, 0))), (10, .ptr (some (3, 0))), (12, .ptr (some (4, 0))), (40, .fn (.func 87) [] [.ptr (some (5, 0)), .ptr (some (6, 0)), .ptr (some (7, 0))])]) 51 (rgP (codeAt dweCode [1, 1, 1, 1, 1, 0, 1, 0])) (rgA (codeAt dweCode [1, 1, 1, 1, 1, 0, 1, 0])) (rgB (codeAt dweCode [1, 1, 1, 1, 1, 0, 1, 0]))) :: (([(2, ⟨.lit [.int .i64 (.x 0), .int .i64 (.x 0)], 0, true, none⟩), (3, ⟨.lit [.bool (.x p0), .int .i64 (.x p1), .int .i64 (.x p2), .int .i64 (.x p3), .int .i64 (.x p4), .sla 0 2 0 p5, .sla 1 4 0 p6, .int .i64 (.x p7)], 0, true, none⟩), (4, ⟨.lit [.int .i64 (.x 0), .int .i64 (.x 0)], 0, true, none⟩), (5, ⟨.lit [.bool (.x p0), .int .i64 (.x p1), .int .i64 (.x p2), .int .i64 (.x p3), .int .i64 (.x p4), .sla 0 2 0 p5, .sla 1 4 0 p6, .int .i64 (.x p7)], 0, true, none⟩), (6, ⟨.lit [.int .i64 (.x a13)], 0, true, none⟩), (7, ⟨.lit [.int .i64 (.x a14)], 0, true, none⟩)] ++ []) ++ [(0, ⟨.arg a5 2 (fun i => [.int .i64 (.x (a6 i)), .int .i64 (.x (a7 i))]) (fun _ => ⟨rfl, rfl⟩), 2, true, none⟩), (1, ⟨.arg a8 4 (fun i => [.int .i64 (.x (a9 i)), .int .i64 (.x (a10 i)), .int .i64 (.x (a11 i)), .int .i64 (.x (a12 i))]) (fun _ => ⟨rfl, rfl⟩), 4, true, none⟩)]))
  args := [.yld 8, .ptr (some (5, 0)), .ptr (some (6, 0)), .ptr (some (7, 0))]
  res := (Try.f87).results.toList
  path := fun a => match a with
   | .n0 q0 q1 q2 q3 => [1, 1, 0]
  pd := fun a => match a with
   | .n0 q0 q1 q2 q3 => ⟨[(0, .yld 8), (2, .ptr (some (6, 0))), (3, .ptr (some (7, 0))), (5, .int .i64 (.x q0)), (11, .sla 1 4 0 p6), (12, .int .i64 (.x (↑p6))), (13, .int .i64 (.x q1))], [(4, ⟨.lit [.int .i64 (.x q2), .int .i64 (.x q3)], 0, true, none⟩)], 9, [(8, recS (mkT [(8, .ptr (some (2, 0))), (10, .ptr (some (3, 0))), (12, .ptr (some (4, 0))), (40, .fn (.func 87) [] [.ptr (some (5, 0)), .ptr (some (6, 0)), .ptr (some (7, 0))])]) 51 (rgP (codeAt dweCode [1, 1, 1, 1, 1, 0, 1, 0])) (rgA (codeAt dweCode [1, 1, 1, 1, 1, 0, 1, 0])) (rgB (codeAt dweCode [1, 1, 1, 1, 1, 0, 1, 0])) (.ready) (.none))]⟩
  D0 := dwes0D0 a0 a1 a2 a3 a4 a5 a6 a7 a8 a9 a10 a11 a12 a13 a14 p0 p1 p2 p3 p4 p5 p6 p7
  D := dwes0D a0 a1 a2 a3 a4 a5 a6 a7 a8 a9 a10 a11 a12 a13 a14 p0 p1 p2 p3 p4 p5 p6 p7
  rc := (fun v => match v with
 | .r0 q0 q1 => .tup [])
  rh := (fun v => match v with
 | .r0 q0 q1 => [(4, ⟨.lit [.int .i64 (.x q0), .int .i64 (.x q1)], 0, true, none⟩)])
  rn := (fun v => match v with
 | .r0 q0 q1 => 9)
  rx := (fun v => match v with
 | .r0 q0 q1 => [(8, recS (mkT [(8, .ptr (some (2, 0))), (10, .ptr (some (3, 0))), (12, .ptr (some (4, 0))), (40, .fn (.func 87) [] [.ptr (some (5, 0)), .ptr (some (6, 0)), .ptr (some (7, 0))])]) 51 (rgP (codeAt dweCode [1, 1, 1, 1, 1, 0, 1, 0])) (rgA (codeAt dweCode [1, 1, 1, 1, 1, 0, 1, 0])) (rgB (codeAt dweCode [1, 1, 1, 1, 1, 0, 1, 0])) (.ready) (.none))])
  rgo := (fun _ => none)
theorem dwes0start (a0 : Bool) (a1 a2 a3 a4 : Int) (a5 : Nat) (a6 a7 : Nat → Int) (a8 : Nat) (a9 a10 a11 a12 : Nat → Int) (a13 a14 : Int) (p0 : Bool) (p1 p2 p3 p4 : Int) (p5 p6 : Nat) (p7 : Int) : AF.edgeOk (dwes0A a0 a1 a2 a3 a4 a5 a6 a7 a8 a9 a10 a11 a12 a13 a14 p0 p1 p2 p3 p4 p5 p6 p7) (ctxOf Try.prog memo0) (dwes0D0 a0 a1 a2 a3 a4 a5 a6 a7 a8 a9 a10 a11 a12 a13 a14 p0 p1 p2 p3 p4 p5 p6 p7) (AF.run0 (dwes0A a0 a1 a2 a3 a4 a5 a6 a7 a8 a9 a10 a11 a12 a13 a14 p0 p1 p2 p3 p4 p5 p6 p7) (ctxOf Try.prog (memoS 65 dwoP dwoF dwoW dwoH 2 (memoP 63 dshP dshF dshW dshH 2 memo0)))) := by unfold AF.edgeOk; kernel_rfl
theorem dwes0node0 (a0 : Bool) (a1 a2 a3 a4 : Int) (a5 : Nat) (a6 a7 : Nat → Int) (a8 : Nat) (a9 a10 a11 a12 : Nat → Int) (a13 a14 : Int) (p0 : Bool) (p1 p2 p3 p4 : Int) (p5 p6 : Nat) (p7 q0 q1 q2 q3 : Int) : AF.edgeOk (dwes0A a0 a1 a2 a3 a4 a5 a6 a7 a8 a9 a10 a11 a12 a13 a14 p0 p1 p2 p3 p4 p5 p6 p7) (ctxOf Try.prog memo0) (dwes0D a0 a1 a2 a3 a4 a5 a6 a7 a8 a9 a10 a11 a12 a13 a14 p0 p1 p2 p3 p4 p5 p6 p7 (.n0 q0 q1 q2 q3)) (AF.runN (dwes0A a0 a1 a2 a3 a4 a5 a6 a7 a8 a9 a10 a11 a12 a13 a14 p0 p1 p2 p3 p4 p5 p6 p7) (ctxOf Try.prog (memoS 65 dwoP dwoF dwoW dwoH 2 (memoP 63 dshP dshF dshW dshH 2 memo0))) (.n0 q0 q1 q2 q3)) := by unfold AF.edgeOk; kernel_rfl
theorem dwes0ok (a0 : Bool) (a1 a2 a3 a4 : Int) (a5 : Nat) (a6 a7 : Nat → Int) (a8 : Nat) (a9 a10 a11 a12 : Nat → Int) (a13 a14 : Int) (p0 : Bool) (p1 p2 p3 p4 : Int) (p5 p6 : Nat) (p7 : Int) : (dwes0A a0 a1 a2 a3 a4 a5 a6 a7 a8 a9 a10 a11 a12 a13 a14 p0 p1 p2 p3 p4 p5 p6 p7).Ok Try.prog (ctxOf Try.prog (memoS 65 dwoP dwoF dwoW dwoH 2 (memoP 63 dshP dshF dshW dshH 2 memo0))) where
  regs := by kernel_rfl
  h0 := by kernel_rfl
  start := dwes0start a0 a1 a2 a3 a4 a5 a6 a7 a8 a9 a10 a11 a12 a13 a14 p0 p1 p2 p3 p4 p5 p6 p7
  node := fun a _ => match a with
   | .n0 q0 q1 q2 q3 => dwes0node0 a0 a1 a2 a3 a4 a5 a6 a7 a8 a9 a10 a11 a12 a13 a14 p0 p1 p2 p3 p4 p5 p6 p7 q0 q1 q2 q3
  pd := fun a => match a with
   | .n0 q0 q1 q2 q3 => ⟨(fa_cons rfl (fa_cons rfl (fa_cons rfl (fa_cons rfl (fa_cons rfl (fa_cons rfl (fa_cons rfl fa_nil))))))), (fa_cons ⟨.inr (memW rfl), rfl, rfl⟩ fa_nil), (fa_cons ⟨memW rfl, RecOk.of rfl⟩ fa_nil), rfl⟩
  le := fun a => match a with
   | .n0 q0 q1 q2 q3 => Nat.le_of_ble_eq_true rfl
  rd := fun v => match v with
   | .r0 q0 q1 => ⟨⟨fa_nil, (fa_cons ⟨.inr (memW rfl), rfl, rfl⟩ fa_nil), (fa_cons ⟨memW rfl, RecOk.of rfl⟩ fa_nil), rfl⟩, rfl⟩
  wb := rfl
theorem dwes0hR {ρ : Env} (a0 : Bool) (a1 a2 a3 a4 : Int) (a5 : Nat) (a6 a7 : Nat → Int) (a8 : Nat) (a9 a10 a11 a12 : Nat → Int) (a13 a14 : Int) (p0 : Bool) (p1 p2 p3 p4 : Int) (p5 p6 : Nat) (p7 : Int) (hM : MemoOk Try.prog (ctxOf Try.prog (memoS 65 dwoP dwoF dwoW dwoH 2 (memoP 63 dshP dshF dshW dshH 2 memo0))) ρ) : ∀ X a q n D, FxOk ρ X → X.base = (dwes0A a0 a1 a2 a3 a4 a5 a6 a7 a8 a9 a10 a11 a12 a13 a14 p0 p1 p2 p3 p4 p5 p6 p7).base → X.nt = (dwes0A a0 a1 a2 a3 a4 a5 a6 a7 a8 a9 a10 a11 a12 a13 a14 p0 p1 p2 p3 p4 p5 p6 p7).nt → X.W = (dwes0A a0 a1 a2 a3 a4 a5 a6 a7 a8 a9 a10 a11 a12 a13 a14 p0 p1 p2 p3 p4 p5 p6 p7).W → (dwes0A a0 a1 a2 a3 a4 a5 a6 a7 a8 a9 a10 a11 a12 a13 a14 p0 p1 p2 p3 p4 p5 p6 p7).rgo a = some q → q n = some D → (dwes0A a0 a1 a2 a3 a4 a5 a6 a7 a8 a9 a10 a11 a12 a13 a14 p0 p1 p2 p3 p4 p5 p6 p7).RangeOk Try.prog ρ X a D := AF.noRange rfl
inductive dweN where
  | n0 (p0 : Bool) (p1 p2 p3 p4 : Int) (p5 p6 : Nat) (p7 : Int)
abbrev dweR := Int × Int × Int
noncomputable def dweD0 (a0 : Bool) (a1 a2 a3 a4 : Int) (a5 : Nat) (a6 a7 : Nat → Int) (a8 : Nat) (a9 a10 a11 a12 : Nat → Int) (a13 a14 : Int) : DD (Lf dweN dweR) :=
 let z0 := fun i => [CV.int IntKind.i64 (IE.x (a6 (0 + i))), CV.int IntKind.i64 (IE.x (a7 (0 + i)))]
 let z1 := fun i => [CV.int IntKind.i64 (IE.x (a9 (0 + i))), CV.int IntKind.i64 (IE.x (a10 (0 + i))), CV.int IntKind.i64 (IE.x (a11 (0 + i))), CV.int IntKind.i64 (IE.x (a12 (0 + i)))]
 let z2 := dshA a0 a1 a2 a3 a4 a5 (fun i => a6 (0 + i)) (fun i => a7 (0 + i)) a8 (fun i => a9 (0 + i)) (fun i => a10 (0 + i)) (fun i => a11 (0 + i)) (fun i => a12 (0 + i))
 let z3 := AF.val z2
 let z4 := dshw7 z3
 .must (decide (0 + a5 ≤ a5))
   (.must (ShapeOk [some IntKind.i64, some IntKind.i64] (tabOf a5 z0) z0)
   (.must (decide (0 + a8 ≤ a8))
   (.must (ShapeOk [some IntKind.i64, some IntKind.i64, some IntKind.i64, some IntKind.i64] (tabOf a8 z1) z1)
   (.must (AF.fin z2)
   (.ask (Cm.run .neq (dshw8 z3) 0)
   (.leaf (.done (0, 0, dshw8 z3) []))
   (.ask (Cm.run .lss a13 0)
   (.leaf (.done (0, 0, 3) []))
   (.ask (Cm.run .gtr a13 z4)
   (.leaf (.done (0, 0, 3) []))
   (.ask (Cm.run .lss a14 0)
   (.leaf (.done (0, 0, 3) []))
   (.ask (Cm.run .gtr a14 z4)
   (.leaf (.done (0, 0, 3) []))
   (.ask (Cm.run .gtr a13 a14)
   (.leaf (.done (0, 0, 3) []))
   (.leaf (.next (.n0 (dshw0 z3) (dshw1 z3) (dshw2 z3) (dshw3 z3) (dshw4 z3) (dshw5 z3) (dshw6 z3) z4) [3, 4, 8, 9, 10, 11]))))))))))))

noncomputable def dweD (a0 : Bool) (a1 a2 a3 a4 : Int) (a5 : Nat) (a6 a7 : Nat → Int) (a8 : Nat) (a9 a10 a11 a12 : Nat → Int) (a13 a14 : Int) : dweN → DD (Lf dweN dweR)
 | .n0 p0 p1 p2 p3 p4 p5 p6 p7 =>
 .dead

noncomputable def dweRg0 (a0 : Bool) (a1 a2 a3 a4 : Int) (a5 : Nat) (a6 a7 : Nat → Int) (a8 : Nat) (a9 a10 a11 a12 : Nat → Int) (a13 a14 : Int) (p0 : Bool) (p1 p2 p3 p4 : Int) (p5 p6 : Nat) (p7 : Int) : dwes0R → DD (Lf dweN dweR)
 | .r0 q0 q1 =>
 .leaf (.done (q0, q1, 0) [])

noncomputable def dweA (a0 : Bool) (a1 a2 a3 a4 : Int) (a5 : Nat) (a6 a7 : Nat → Int) (a8 : Nat) (a9 a10 a11 a12 : Nat → Int) (a13 a14 : Int) : AF dweN dweR where
  code := dweCode
  base := 2
  nt := 51
  m := 400
  un := [1000008]
  W := []
  h0 := [(0, ⟨.arg a5 2 (fun i => [.int .i64 (.x (a6 i)), .int .i64 (.x (a7 i))]) (fun _ => ⟨rfl, rfl⟩), 2, true, none⟩), (1, ⟨.arg a8 4 (fun i => [.int .i64 (.x (a9 i)), .int .i64 (.x (a10 i)), .int .i64 (.x (a11 i)), .int .i64 (.x (a12 i))]) (fun _ => ⟨rfl, rfl⟩), 4, true, none⟩)]
  args := [.agg [.bool (.x a0), .int .i64 (.x a1), .int .i64 (.x a2), .int .i64 (.x a3), .int .i64 (.x a4), .sla 0 2 0 a5], .sla 1 4 0 a8, .int .i64 (.x a13), .int .i64 (.x a14)]
  res := (Try.f18).results.toList
  path := fun a => match a with
   | .n0 p0 p1 p2 p3 p4 p5 p6 p7 => [1, 1, 1, 1, 1, 0, 1, 0]
  pd := fun a => match a with
   | .n0 p0 p1 p2 p3 p4 p5 p6 p7 => ⟨[(8, .ptr (some (2, 0))), (10, .ptr (some (3, 0))), (12, .ptr (some (4, 0))), (40, .fn (.func 87) [] [.ptr (some (5, 0)), .ptr (some (6, 0)), .ptr (some (7, 0))])], [(2, ⟨.lit [.int .i64 (.x 0), .int .i64 (.x 0)], 0, true, none⟩), (3, ⟨.lit [.bool (.x p0), .int .i64 (.x p1), .int .i64 (.x p2), .int .i64 (.x p3), .int .i64 (.x p4), .sla 0 2 0 p5, .sla 1 4 0 p6, .int .i64 (.x p7)], 0, true, none⟩), (4, ⟨.lit [.int .i64 (.x 0), .int .i64 (.x 0)], 0, true, none⟩), (5, ⟨.lit [.bool (.x p0), .int .i64 (.x p1), .int .i64 (.x p2), .int .i64 (.x p3), .int .i64 (.x p4), .sla 0 2 0 p5, .sla 1 4 0 p6, .int .i64 (.x p7)], 0, true, none⟩), (6, ⟨.lit [.int .i64 (.x a13)], 0, true, none⟩), (7, ⟨.lit [.int .i64 (.x a14)], 0, true, none⟩)], 8, []⟩
  D0 := dweD0 a0 a1 a2 a3 a4 a5 a6 a7 a8 a9 a10 a11 a12 a13 a14
  D := dweD a0 a1 a2 a3 a4 a5 a6 a7 a8 a9 a10 a11 a12 a13 a14
  rc := (fun v => .tup [.agg [.int .i64 (.x v.1), .int .i64 (.x v.2.1)], .int .i64 (.x v.2.2)])
  rh := (fun v => [])
  rn := (fun v => 2)
  rx := (fun v => [])
  rgo := (fun a => match a with
   | .n0 p0 p1 p2 p3 p4 p5 p6 p7 => some (fun n => (AF.run (dwes0A a0 a1 a2 a3 a4 a5 a6 a7 a8 a9 a10 a11 a12 a13 a14 p0 p1 p2 p3 p4 p5 p6 p7) n).map (dweRg0 a0 a1 a2 a3 a4 a5 a6 a7 a8 a9 a10 a11 a12 a13 a14 p0 p1 p2 p3 p4 p5 p6 p7)))
theorem dwestart (a0 : Bool) (a1 a2 a3 a4 : Int) (a5 : Nat) (a6 a7 : Nat → Int) (a8 : Nat) (a9 a10 a11 a12 : Nat → Int) (a13 a14 : Int) : AF.edgeOk (dweA a0 a1 a2 a3 a4 a5 a6 a7 a8 a9 a10 a11 a12 a13 a14) (ctxOf Try.prog memo0) (dweD0 a0 a1 a2 a3 a4 a5 a6 a7 a8 a9 a10 a11 a12 a13 a14) (AF.run0 (dweA a0 a1 a2 a3 a4 a5 a6 a7 a8 a9 a10 a11 a12 a13 a14) (ctxOf Try.prog (memoS 65 dwoP dwoF dwoW dwoH 2 (memoP 63 dshP dshF dshW dshH 2 memo0)))) := by unfold AF.edgeOk; kernel_rfl
theorem dweok (a0 : Bool) (a1 a2 a3 a4 : Int) (a5 : Nat) (a6 a7 : Nat → Int) (a8 : Nat) (a9 a10 a11 a12 : Nat → Int) (a13 a14 : Int) : (dweA a0 a1 a2 a3 a4 a5 a6 a7 a8 a9 a10 a11 a12 a13 a14).Ok Try.prog (ctxOf Try.prog (memoS 65 dwoP dwoF dwoW dwoH 2 (memoP 63 dshP dshF dshW dshH 2 memo0))) where
  regs := by kernel_rfl
  h0 := by kernel_rfl
  start := dwestart a0 a1 a2 a3 a4 a5 a6 a7 a8 a9 a10 a11 a12 a13 a14
  node := fun a h => match a, h with
   | .n0 p0 p1 p2 p3 p4 p5 p6 p7, h => someNe h
  pd := fun a => match a with
   | .n0 p0 p1 p2 p3 p4 p5 p6 p7 => ⟨(fa_cons rfl (fa_cons rfl (fa_cons rfl (fa_cons rfl fa_nil)))), (fa_cons ⟨.inl (Nat.le_of_ble_eq_true rfl), rfl, rfl⟩ (fa_cons ⟨.inl (Nat.le_of_ble_eq_true rfl), rfl, rfl⟩ (fa_cons ⟨.inl (Nat.le_of_ble_eq_true rfl), rfl, rfl⟩ (fa_cons ⟨.inl (Nat.le_of_ble_eq_true rfl), rfl, rfl⟩ (fa_cons ⟨.inl (Nat.le_of_ble_eq_true rfl), rfl, rfl⟩ (fa_cons ⟨.inl (Nat.le_of_ble_eq_true rfl), rfl, rfl⟩ fa_nil)))))), fa_nil, rfl⟩
  le := fun a => match a with
   | .n0 p0 p1 p2 p3 p4 p5 p6 p7 => Nat.le_of_ble_eq_true rfl
  rd := fun v => ⟨⟨fa_nil, fa_nil, fa_nil, rfl⟩, rfl⟩
  wb := rfl
theorem dwerg0_0 (a0 : Bool) (a1 a2 a3 a4 : Int) (a5 : Nat) (a6 a7 : Nat → Int) (a8 : Nat) (a9 a10 a11 a12 : Nat → Int) (a13 a14 : Int) (p0 : Bool) (p1 p2 p3 p4 : Int) (p5 p6 : Nat) (p7 q0 q1 : Int) : AF.edgeOk (dweA a0 a1 a2 a3 a4 a5 a6 a7 a8 a9 a10 a11 a12 a13 a14) (ctxOf Try.prog memo0) (dweRg0 a0 a1 a2 a3 a4 a5 a6 a7 a8 a9 a10 a11 a12 a13 a14 p0 p1 p2 p3 p4 p5 p6 p7 (.r0 q0 q1)) (AF.runR (dweA a0 a1 a2 a3 a4 a5 a6 a7 a8 a9 a10 a11 a12 a13 a14) (ctxOf Try.prog (memoS 65 dwoP dwoF dwoW dwoH 2 (memoP 63 dshP dshF dshW dshH 2 memo0))) (.n0 p0 p1 p2 p3 p4 p5 p6 p7) (putH (dwes0A a0 a1 a2 a3 a4 a5 a6 a7 a8 a9 a10 a11 a12 a13 a14 p0 p1 p2 p3 p4 p5 p6 p7).H0 ((dwes0A a0 a1 a2 a3 a4 a5 a6 a7 a8 a9 a10 a11 a12 a13 a14 p0 p1 p2 p3 p4 p5 p6 p7).rh (.r0 q0 q1) ++ (dwes0A a0 a1 a2 a3 a4 a5 a6 a7 a8 a9 a10 a11 a12 a13 a14 p0 p1 p2 p3 p4 p5 p6 p7).rx (.r0 q0 q1))) ((dwes0A a0 a1 a2 a3 a4 a5 a6 a7 a8 a9 a10 a11 a12 a13 a14 p0 p1 p2 p3 p4 p5 p6 p7).rn (.r0 q0 q1)) ⟨mkT [(8, .ptr (some (2, 0))), (10, .ptr (some (3, 0))), (12, .ptr (some (4, 0))), (40, .fn (.func 87) [] [.ptr (some (5, 0)), .ptr (some (6, 0)), .ptr (some (7, 0))])], 51, rgP (codeAt dweCode [1, 1, 1, 1, 1, 0, 1, 0]), rgA (codeAt dweCode [1, 1, 1, 1, 1, 0, 1, 0]), rgB (codeAt dweCode [1, 1, 1, 1, 1, 0, 1, 0]), .ready, .none⟩ .normal) := by unfold AF.edgeOk; kernel_rfl
theorem dwerg0 (a0 : Bool) (a1 a2 a3 a4 : Int) (a5 : Nat) (a6 a7 : Nat → Int) (a8 : Nat) (a9 a10 a11 a12 : Nat → Int) (a13 a14 : Int) (p0 : Bool) (p1 p2 p3 p4 : Int) (p5 p6 : Nat) (p7 : Int) : AF.Rg (dweA a0 a1 a2 a3 a4 a5 a6 a7 a8 a9 a10 a11 a12 a13 a14) (dwes0A a0 a1 a2 a3 a4 a5 a6 a7 a8 a9 a10 a11 a12 a13 a14 p0 p1 p2 p3 p4 p5 p6 p7) Try.prog (ctxOf Try.prog (memoS 65 dwoP dwoF dwoW dwoH 2 (memoP 63 dshP dshF dshW dshH 2 memo0))) (ctxOf Try.prog (memoS 65 dwoP dwoF dwoW dwoH 2 (memoP 63 dshP dshF dshW dshH 2 memo0))) (.n0 p0 p1 p2 p3 p4 p5 p6 p7) (rgF (codeAt dweCode [1, 1, 1, 1, 1, 0, 1, 0])) (rgP (codeAt dweCode [1, 1, 1, 1, 1, 0, 1, 0])) (rgA (codeAt dweCode [1, 1, 1, 1, 1, 0, 1, 0])) (rgB (codeAt dweCode [1, 1, 1, 1, 1, 0, 1, 0])) 87 Try.f87 [] [.ptr (some (5, 0)), .ptr (some (6, 0)), .ptr (some (7, 0))] (fun v => match v with
   | .r0 q0 q1 => ⟨mkT [(8, .ptr (some (2, 0))), (10, .ptr (some (3, 0))), (12, .ptr (some (4, 0))), (40, .fn (.func 87) [] [.ptr (some (5, 0)), .ptr (some (6, 0)), .ptr (some (7, 0))])], 51, rgP (codeAt dweCode [1, 1, 1, 1, 1, 0, 1, 0]), rgA (codeAt dweCode [1, 1, 1, 1, 1, 0, 1, 0]), rgB (codeAt dweCode [1, 1, 1, 1, 1, 0, 1, 0]), .ready, .none⟩) (fun v => match v with
   | .r0 q0 q1 => .normal) (dweRg0 a0 a1 a2 a3 a4 a5 a6 a7 a8 a9 a10 a11 a12 a13 a14 p0 p1 p2 p3 p4 p5 p6 p7) where
  code := by kernel_rfl
  fn := by kernel_rfl
  args := rfl
  base := rfl
  h0 := rfl
  W := rfl
  gfn := Try.func87
  body := rfl
  nt := rfl
  len := Nat.le_of_ble_eq_true rfl
  res := rfl
  ok := dwes0ok a0 a1 a2 a3 a4 a5 a6 a7 a8 a9 a10 a11 a12 a13 a14 p0 p1 p2 p3 p4 p5 p6 p7
  le := fun v => match v with
   | .r0 q0 q1 => Nat.le_of_ble_eq_true rfl
  lt := fun v => match v with
   | .r0 q0 q1 => rfl
  rcd := fun v => match v with
   | .r0 q0 q1 => rfl
  st := fun v => match v with
   | .r0 q0 q1 => (fun h => LoopState.noConfusion h)
  exd := fun v => match v with
   | .r0 q0 q1 => rfl
  D := fun v => match v with
   | .r0 q0 q1 => dwerg0_0 a0 a1 a2 a3 a4 a5 a6 a7 a8 a9 a10 a11 a12 a13 a14 p0 p1 p2 p3 p4 p5 p6 p7 q0 q1
theorem dwehR {ρ : Env} (a0 : Bool) (a1 a2 a3 a4 : Int) (a5 : Nat) (a6 a7 : Nat → Int) (a8 : Nat) (a9 a10 a11 a12 : Nat → Int) (a13 a14 : Int) (hM : MemoOk Try.prog (ctxOf Try.prog (memoS 65 dwoP dwoF dwoW dwoH 2 (memoP 63 dshP dshF dshW dshH 2 memo0))) ρ) : ∀ X a q n D, FxOk ρ X → X.base = (dweA a0 a1 a2 a3 a4 a5 a6 a7 a8 a9 a10 a11 a12 a13 a14).base → X.nt = (dweA a0 a1 a2 a3 a4 a5 a6 a7 a8 a9 a10 a11 a12 a13 a14).nt → X.W = (dweA a0 a1 a2 a3 a4 a5 a6 a7 a8 a9 a10 a11 a12 a13 a14).W → (dweA a0 a1 a2 a3 a4 a5 a6 a7 a8 a9 a10 a11 a12 a13 a14).rgo a = some q → q n = some D → (dweA a0 a1 a2 a3 a4 a5 a6 a7 a8 a9 a10 a11 a12 a13 a14).RangeOk Try.prog ρ X a D := by
  intro X a q n D h1 h2 h3 h4 hq hD
  cases a with
  | n0 p0 p1 p2 p3 p4 p5 p6 p7 =>
    have e := Option.some.inj hq
    subst e
    exact AF.range_ok (n := n) try_ok hM hM (dweok a0 a1 a2 a3 a4 a5 a6 a7 a8 a9 a10 a11 a12 a13 a14) (dwerg0 a0 a1 a2 a3 a4 a5 a6 a7 a8 a9 a10 a11 a12 a13 a14 p0 p1 p2 p3 p4 p5 p6 p7) (dwes0hR a0 a1 a2 a3 a4 a5 a6 a7 a8 a9 a10 a11 a12 a13 a14 p0 p1 p2 p3 p4 p5 p6 p7 hM) h1 h2 h3 h4 hD
theorem dwectr {ρ : Env} (a0 : Bool) (a1 a2 a3 a4 : Int) (a5 : Nat) (a6 a7 : Nat → Int) (a8 : Nat) (a9 a10 a11 a12 : Nat → Int) (a13 a14 : Int) {n : Nat} {v : dweR} (hM : MemoOk Try.prog (ctxOf Try.prog (memoS 65 dwoP dwoF dwoW dwoH 2 (memoP 63 dshP dshF dshW dshH 2 memo0))) ρ) (hv : (dweA a0 a1 a2 a3 a4 a5 a6 a7 a8 a9 a10 a11 a12 a13 a14).run n = some v) :
    Ctr Try.prog ρ 18 (dweA a0 a1 a2 a3 a4 a5 a6 a7 a8 a9 a10 a11 a12 a13 a14).args (dweA a0 a1 a2 a3 a4 a5 a6 a7 a8 a9 a10 a11 a12 a13 a14).H0 (dweA a0 a1 a2 a3 a4 a5 a6 a7 a8 a9 a10 a11 a12 a13 a14).base (dweA a0 a1 a2 a3 a4 a5 a6 a7 a8 a9 a10 a11 a12 a13 a14).W ((dweA a0 a1 a2 a3 a4 a5 a6 a7 a8 a9 a10 a11 a12 a13 a14).rc v) (putH (dweA a0 a1 a2 a3 a4 a5 a6 a7 a8 a9 a10 a11 a12 a13 a14).H0 ((dweA a0 a1 a2 a3 a4 a5 a6 a7 a8 a9 a10 a11 a12 a13 a14).rh v ++ (dweA a0 a1 a2 a3 a4 a5 a6 a7 a8 a9 a10 a11 a12 a13 a14).rx v)) ((dweA a0 a1 a2 a3 a4 a5 a6 a7 a8 a9 a10 a11 a12 a13 a14).rn v) :=
  AF.ctr try_ok hM (dweok a0 a1 a2 a3 a4 a5 a6 a7 a8 a9 a10 a11 a12 a13 a14) (fn := Try.f18) Try.func18 rfl rfl (Nat.le_of_ble_eq_true rfl) rfl (dwehR a0 a1 a2 a3 a4 a5 a6 a7 a8 a9 a10 a11 a12 a13 a14 hM) hv
theorem dwemem {ρ : Env} : MemoOk Try.prog (ctxOf Try.prog (memoS 65 dwoP dwoF dwoW dwoH 2 (memoP 63 dshP dshF dshW dshH 2 memo0))) ρ := (memoS_ok (dwoknown dwomem) (memoP_ok (dshknown dshmem) memo0_ok))
abbrev dweP : List AQ := [.agg [.bool, .int .i64, .int .i64, .int .i64, .int .i64, .rows [some .i64, some .i64]], .rows [some .i64, some .i64, some .i64, some .i64], .int .i64, .int .i64]
noncomputable def dweF (v : AW) : AF dweN dweR := dweA (v.b.getD 0 false) (v.i.getD 0 0) (v.i.getD 1 0) (v.i.getD 2 0) (v.i.getD 3 0) (v.t.getD 0 .none).n ((v.t.getD 0 .none).c 0) ((v.t.getD 0 .none).c 1) (v.t.getD 1 .none).n ((v.t.getD 1 .none).c 0) ((v.t.getD 1 .none).c 1) ((v.t.getD 1 .none).c 2) ((v.t.getD 1 .none).c 3) (v.i.getD 4 0) (v.i.getD 5 0)
noncomputable def dweW : dweR → CV := fun v => .tup [.agg [.int .i64 (.x v.1), .int .i64 (.x v.2.1)], .int .i64 (.x v.2.2)]
noncomputable def dweH : dweR → List (Nat × Blk) := fun v => []
instance : Inhabited dweR := ⟨(0, 0, 0)⟩
theorem dweknown {ρ : Env} (hM : MemoOk Try.prog (ctxOf Try.prog (memoS 65 dwoP dwoF dwoW dwoH 2 (memoP 63 dshP dshF dshW dshH 2 memo0))) ρ) : KnownS Try.prog ρ 18 dweP dweF dweW dweH 2 where
  fn := ⟨Try.f18, Try.func18, rfl⟩
  le := Nat.le_of_ble_eq_true rfl
  full := fun r => rfl
  rg := fun r => rfl
  hg := fun r => fa_nil
  ctr := fun v n r h => dwectr (v.b.getD 0 false) (v.i.getD 0 0) (v.i.getD 1 0) (v.i.getD 2 0) (v.i.getD 3 0) (v.t.getD 0 .none).n ((v.t.getD 0 .none).c 0) ((v.t.getD 0 .none).c 1) (v.t.getD 1 .none).n ((v.t.getD 1 .none).c 0) ((v.t.getD 1 .none).c 1) ((v.t.getD 1 .none).c 2) ((v.t.getD 1 .none).c 3) (v.i.getD 4 0) (v.i.getD 5 0) hM h
end Go.Proofs.Ythagjhadjpangaa.Cx

/- acme/die.Targets as an automaton. Made by tools/cxauto.py. -/
namespace Go.Proofs.Ythagjhadjpangaa.Cx
set_option linter.unusedVariables false
set_option linter.unusedSimpArgs false
set_option maxRecDepth 100000
open Go Go.Proofs Go.RowKit
noncomputable abbrev dtaCode : Code := funcCode Try.f19
abbrev dtaN := Empty
abbrev dtaR := Int × Int × Int
noncomputable def dtaD0 (a0 : Bool) (a1 a2 a3 a4 : Int) (a5 : Nat) (a6 a7 : Nat → Int) (a8 : Nat) (a9 a10 a11 a12 : Nat → Int) (a13 a14 : Int) : DD (Lf dtaN dtaR) :=
 let z0 := fun i => [CV.int IntKind.i64 (IE.x (a6 (0 + i))), CV.int IntKind.i64 (IE.x (a7 (0 + i)))]
 let z1 := fun i => [CV.int IntKind.i64 (IE.x (a9 (0 + i))), CV.int IntKind.i64 (IE.x (a10 (0 + i))), CV.int IntKind.i64 (IE.x (a11 (0 + i))), CV.int IntKind.i64 (IE.x (a12 (0 + i)))]
 let z2 := fun i => a6 (0 + i)
 let z3 := fun i => a7 (0 + i)
 let z4 := fun i => a9 (0 + i)
 let z5 := fun i => a10 (0 + i)
 let z6 := fun i => a11 (0 + i)
 let z7 := fun i => a12 (0 + i)
 let z8 := dshA a0 a1 a2 a3 a4 a5 z2 z3 a8 z4 z5 z6 z7
 let z9 := AF.val z8
 let z10 := dshw7 z9
 let z11 := dshw5 z9
 let z12 := dshw6 z9
 let z13 := drcA (dshw0 z9) (dshw1 z9) (dshw2 z9) (dshw3 z9) (dshw4 z9) z11 z2 z3 z12 z4 z5 z6 z7 z10 (-10000000000) 20000000000 a13 a14
 let z14 := AF.val z13
 let z15 := Prod.snd z14
 .must (decide (0 + a5 ≤ a5))
   (.must (ShapeOk [some IntKind.i64, some IntKind.i64] (tabOf a5 z0) z0)
   (.must (decide (0 + a8 ≤ a8))
   (.must (ShapeOk [some IntKind.i64, some IntKind.i64, some IntKind.i64, some IntKind.i64] (tabOf a8 z1) z1)
   (.must (AF.fin z8)
   (.ask (Cm.run .neq (dshw8 z9) 0)
   (.leaf (.done (0, 0, dshw8 z9) []))
   (.ask (Cm.run .lss a13 0)
   (.leaf (.done (0, 0, 3) []))
   (.ask (Cm.run .gtr a13 z10)
   (.leaf (.done (0, 0, 3) []))
   (.ask (Cm.run .lss a14 0)
   (.leaf (.done (0, 0, 3) []))
   (.ask (Cm.run .gtr a14 z10)
   (.leaf (.done (0, 0, 3) []))
   (.ask (Cm.run .geq a13 a14)
   (.leaf (.done (0, 0, 3) []))
   (.must (decide (0 + dshw5 z9 ≤ a5))
   (.must (ShapeOk [some IntKind.i64, some IntKind.i64] (tabOf z11 z0) z0)
   (.must (decide (0 + dshw6 z9 ≤ a8))
   (.must (ShapeOk [some IntKind.i64, some IntKind.i64, some IntKind.i64, some IntKind.i64] (tabOf z12 z1) z1)
   (.must (AF.fin z13)
   (.ask (Cm.run .lss (Prod.snd z15) a14)
   (.leaf (.done (0, 0, 9) []))
   (.leaf (.done (Prod.fst z14, Prod.fst z15, 0) []))))))))))))))))))

noncomputable def dtaD (a0 : Bool) (a1 a2 a3 a4 : Int) (a5 : Nat) (a6 a7 : Nat → Int) (a8 : Nat) (a9 a10 a11 a12 : Nat → Int) (a13 a14 : Int) : dtaN → DD (Lf dtaN dtaR) := fun a => nomatch a
noncomputable def dtaA (a0 : Bool) (a1 a2 a3 a4 : Int) (a5 : Nat) (a6 a7 : Nat → Int) (a8 : Nat) (a9 a10 a11 a12 : Nat → Int) (a13 a14 : Int) : AF dtaN dtaR where
  code := dtaCode
  base := 2
  nt := 50
  m := 400
  un := []
  W := []
  h0 := [(0, ⟨.arg a5 2 (fun i => [.int .i64 (.x (a6 i)), .int .i64 (.x (a7 i))]) (fun _ => ⟨rfl, rfl⟩), 2, true, none⟩), (1, ⟨.arg a8 4 (fun i => [.int .i64 (.x (a9 i)), .int .i64 (.x (a10 i)), .int .i64 (.x (a11 i)), .int .i64 (.x (a12 i))]) (fun _ => ⟨rfl, rfl⟩), 4, true, none⟩)]
  args := [.agg [.bool (.x a0), .int .i64 (.x a1), .int .i64 (.x a2), .int .i64 (.x a3), .int .i64 (.x a4), .sla 0 2 0 a5], .sla 1 4 0 a8, .int .i64 (.x a13), .int .i64 (.x a14)]
  res := (Try.f19).results.toList
  path := fun a => nomatch a
  pd := fun a => nomatch a
  D0 := dtaD0 a0 a1 a2 a3 a4 a5 a6 a7 a8 a9 a10 a11 a12 a13 a14
  D := dtaD a0 a1 a2 a3 a4 a5 a6 a7 a8 a9 a10 a11 a12 a13 a14
  rc := (fun v => .tup [.agg [.int .i64 (.x v.1), .int .i64 (.x v.2.1)], .int .i64 (.x v.2.2)])
  rh := (fun v => [])
  rn := (fun v => 2)
  rx := (fun v => [])
  rgo := (fun _ => none)
theorem dtastart (a0 : Bool) (a1 a2 a3 a4 : Int) (a5 : Nat) (a6 a7 : Nat → Int) (a8 : Nat) (a9 a10 a11 a12 : Nat → Int) (a13 a14 : Int) : AF.edgeOk (dtaA a0 a1 a2 a3 a4 a5 a6 a7 a8 a9 a10 a11 a12 a13 a14) (ctxOf Try.prog memo0) (dtaD0 a0 a1 a2 a3 a4 a5 a6 a7 a8 a9 a10 a11 a12 a13 a14) (AF.run0 (dtaA a0 a1 a2 a3 a4 a5 a6 a7 a8 a9 a10 a11 a12 a13 a14) (ctxOf Try.prog (memoS 67 drcP drcF drcW drcH 2 (memoP 63 dshP dshF dshW dshH 2 memo0)))) := by unfold AF.edgeOk; kernel_rfl
theorem dtaok (a0 : Bool) (a1 a2 a3 a4 : Int) (a5 : Nat) (a6 a7 : Nat → Int) (a8 : Nat) (a9 a10 a11 a12 : Nat → Int) (a13 a14 : Int) : (dtaA a0 a1 a2 a3 a4 a5 a6 a7 a8 a9 a10 a11 a12 a13 a14).Ok Try.prog (ctxOf Try.prog (memoS 67 drcP drcF drcW drcH 2 (memoP 63 dshP dshF dshW dshH 2 memo0))) where
  regs := by kernel_rfl
  h0 := by kernel_rfl
  start := dtastart a0 a1 a2 a3 a4 a5 a6 a7 a8 a9 a10 a11 a12 a13 a14
  node := fun a _ => nomatch a
  pd := fun a => nomatch a
  le := fun a => nomatch a
  rd := fun v => ⟨⟨fa_nil, fa_nil, fa_nil, rfl⟩, rfl⟩
  wb := rfl
theorem dtahR {ρ : Env} (a0 : Bool) (a1 a2 a3 a4 : Int) (a5 : Nat) (a6 a7 : Nat → Int) (a8 : Nat) (a9 a10 a11 a12 : Nat → Int) (a13 a14 : Int) (hM : MemoOk Try.prog (ctxOf Try.prog (memoS 67 drcP drcF drcW drcH 2 (memoP 63 dshP dshF dshW dshH 2 memo0))) ρ) : ∀ X a q n D, FxOk ρ X → X.base = (dtaA a0 a1 a2 a3 a4 a5 a6 a7 a8 a9 a10 a11 a12 a13 a14).base → X.nt = (dtaA a0 a1 a2 a3 a4 a5 a6 a7 a8 a9 a10 a11 a12 a13 a14).nt → X.W = (dtaA a0 a1 a2 a3 a4 a5 a6 a7 a8 a9 a10 a11 a12 a13 a14).W → (dtaA a0 a1 a2 a3 a4 a5 a6 a7 a8 a9 a10 a11 a12 a13 a14).rgo a = some q → q n = some D → (dtaA a0 a1 a2 a3 a4 a5 a6 a7 a8 a9 a10 a11 a12 a13 a14).RangeOk Try.prog ρ X a D := AF.noRange rfl
theorem dtactr {ρ : Env} (a0 : Bool) (a1 a2 a3 a4 : Int) (a5 : Nat) (a6 a7 : Nat → Int) (a8 : Nat) (a9 a10 a11 a12 : Nat → Int) (a13 a14 : Int) {n : Nat} {v : dtaR} (hM : MemoOk Try.prog (ctxOf Try.prog (memoS 67 drcP drcF drcW drcH 2 (memoP 63 dshP dshF dshW dshH 2 memo0))) ρ) (hv : (dtaA a0 a1 a2 a3 a4 a5 a6 a7 a8 a9 a10 a11 a12 a13 a14).run n = some v) :
    Ctr Try.prog ρ 19 (dtaA a0 a1 a2 a3 a4 a5 a6 a7 a8 a9 a10 a11 a12 a13 a14).args (dtaA a0 a1 a2 a3 a4 a5 a6 a7 a8 a9 a10 a11 a12 a13 a14).H0 (dtaA a0 a1 a2 a3 a4 a5 a6 a7 a8 a9 a10 a11 a12 a13 a14).base (dtaA a0 a1 a2 a3 a4 a5 a6 a7 a8 a9 a10 a11 a12 a13 a14).W ((dtaA a0 a1 a2 a3 a4 a5 a6 a7 a8 a9 a10 a11 a12 a13 a14).rc v) (putH (dtaA a0 a1 a2 a3 a4 a5 a6 a7 a8 a9 a10 a11 a12 a13 a14).H0 ((dtaA a0 a1 a2 a3 a4 a5 a6 a7 a8 a9 a10 a11 a12 a13 a14).rh v ++ (dtaA a0 a1 a2 a3 a4 a5 a6 a7 a8 a9 a10 a11 a12 a13 a14).rx v)) ((dtaA a0 a1 a2 a3 a4 a5 a6 a7 a8 a9 a10 a11 a12 a13 a14).rn v) :=
  AF.ctr try_ok hM (dtaok a0 a1 a2 a3 a4 a5 a6 a7 a8 a9 a10 a11 a12 a13 a14) (fn := Try.f19) Try.func19 rfl rfl (Nat.le_of_ble_eq_true rfl) rfl (dtahR a0 a1 a2 a3 a4 a5 a6 a7 a8 a9 a10 a11 a12 a13 a14 hM) hv
theorem dtamem {ρ : Env} : MemoOk Try.prog (ctxOf Try.prog (memoS 67 drcP drcF drcW drcH 2 (memoP 63 dshP dshF dshW dshH 2 memo0))) ρ := (memoS_ok (drcknown drcmem) (memoP_ok (dshknown dshmem) memo0_ok))
abbrev dtaP : List AQ := [.agg [.bool, .int .i64, .int .i64, .int .i64, .int .i64, .rows [some .i64, some .i64]], .rows [some .i64, some .i64, some .i64, some .i64], .int .i64, .int .i64]
noncomputable def dtaF (v : AW) : AF dtaN dtaR := dtaA (v.b.getD 0 false) (v.i.getD 0 0) (v.i.getD 1 0) (v.i.getD 2 0) (v.i.getD 3 0) (v.t.getD 0 .none).n ((v.t.getD 0 .none).c 0) ((v.t.getD 0 .none).c 1) (v.t.getD 1 .none).n ((v.t.getD 1 .none).c 0) ((v.t.getD 1 .none).c 1) ((v.t.getD 1 .none).c 2) ((v.t.getD 1 .none).c 3) (v.i.getD 4 0) (v.i.getD 5 0)
noncomputable def dtaW : dtaR → CV := fun v => .tup [.agg [.int .i64 (.x v.1), .int .i64 (.x v.2.1)], .int .i64 (.x v.2.2)]
noncomputable def dtaH : dtaR → List (Nat × Blk) := fun v => []
instance : Inhabited dtaR := ⟨(0, 0, 0)⟩
theorem dtaknown {ρ : Env} (hM : MemoOk Try.prog (ctxOf Try.prog (memoS 67 drcP drcF drcW drcH 2 (memoP 63 dshP dshF dshW dshH 2 memo0))) ρ) : KnownS Try.prog ρ 19 dtaP dtaF dtaW dtaH 2 where
  fn := ⟨Try.f19, Try.func19, rfl⟩
  le := Nat.le_of_ble_eq_true rfl
  full := fun r => rfl
  rg := fun r => rfl
  hg := fun r => fa_nil
  ctr := fun v n r h => dtactr (v.b.getD 0 false) (v.i.getD 0 0) (v.i.getD 1 0) (v.i.getD 2 0) (v.i.getD 3 0) (v.t.getD 0 .none).n ((v.t.getD 0 .none).c 0) ((v.t.getD 0 .none).c 1) (v.t.getD 1 .none).n ((v.t.getD 1 .none).c 0) ((v.t.getD 1 .none).c 1) ((v.t.getD 1 .none).c 2) ((v.t.getD 1 .none).c 3) (v.i.getD 4 0) (v.i.getD 5 0) hM h
end Go.Proofs.Ythagjhadjpangaa.Cx

/- acme/acmelaw07.unchanged as an automaton. Made by tools/cxauto.py. -/
namespace Go.Proofs.Ythagjhadjpangaa.Cx
set_option linter.unusedVariables false
set_option linter.unusedSimpArgs false
set_option maxRecDepth 100000
open Go Go.Proofs Go.RowKit
noncomputable abbrev duoCode : Code := funcCode Try.f20
inductive duoN where
  | n0 (p0 : Int)
  | n1 (p0 : Int)
abbrev duoR := Bool
noncomputable def duoD0 (a0 : Bool) (a1 a2 a3 a4 : Int) (a5 : Nat) (a6 a7 : Nat → Int) (a8 : Bool) (a9 a10 a11 a12 : Int) (a13 : Nat) (a14 a15 : Nat → Int) (a16 : Nat) (a17 a18 a19 a20 : Nat → Int) (a21 : Nat) (a22 a23 a24 a25 : Nat → Int) : DD (Lf duoN duoR) :=
 let z0 := Cm.run .eql a1 a9
 let z1 := Cm.run .eql a2 a10
 let z2 := Cm.run .eql a3 a11
 let z3 := Cm.run .eql a4 a12
 .ask (a0)
   (.ask (a8)
   (.ask z0
   (.ask z1
   (.ask z2
   (.ask z3
   (.ask (Cm.run .neq (↑a5 : Int) (↑a13 : Int))
   (.leaf (.done false []))
   (.ask (Cm.run .neq (↑a16 : Int) (↑a21 : Int))
   (.leaf (.done false []))
   (.leaf (.next (.n0 0) [4, 5]))))
   (.leaf (.done false [])))
   (.leaf (.done false [])))
   (.leaf (.done false [])))
   (.leaf (.done false [])))
   (.leaf (.done false [])))
   (.ask (a8)
   (.leaf (.done false []))
   (.ask z0
   (.ask z1
   (.ask z2
   (.ask z3
   (.ask (Cm.run .neq (↑a5 : Int) (↑a13 : Int))
   (.leaf (.done false []))
   (.ask (Cm.run .neq (↑a16 : Int) (↑a21 : Int))
   (.leaf (.done false []))
   (.leaf (.next (.n0 0) [4, 5]))))
   (.leaf (.done false [])))
   (.leaf (.done false [])))
   (.leaf (.done false [])))
   (.leaf (.done false []))))

noncomputable def duoD (a0 : Bool) (a1 a2 a3 a4 : Int) (a5 : Nat) (a6 a7 : Nat → Int) (a8 : Bool) (a9 a10 a11 a12 : Int) (a13 : Nat) (a14 a15 : Nat → Int) (a16 : Nat) (a17 a18 a19 a20 : Nat → Int) (a21 : Nat) (a22 a23 a24 a25 : Nat → Int) : duoN → DD (Lf duoN duoR)
 | .n0 p0 =>
 let z0 := decide (0 ≤ p0)
 .ask (Cm.run .lss p0 (↑a5 : Int))
   (.must z0
   (.must (decide (p0 < (↑a5 : Int)))
   (.must (decide (0 + Int.toNat p0 < a5))
   (.must z0
   (.must (decide (p0 < (↑a13 : Int)))
   (.must (decide (0 + Int.toNat p0 < a13))
   (.ask (Cm.run .eql (a6 (0 + Int.toNat p0)) (a14 (0 + Int.toNat p0)))
   (.ask (Cm.run .eql (a7 (0 + Int.toNat p0)) (a15 (0 + Int.toNat p0)))
   (.leaf (.next (.n0 (Ar.run .add .i64 p0 1)) [4, 5]))
   (.leaf (.done false [])))
   (.leaf (.done false [])))))))))
   (.leaf (.next (.n1 0) []))
 | .n1 p0 =>
 let z0 := decide (0 ≤ p0)
 .ask (Cm.run .lss p0 (↑a16 : Int))
   (.must z0
   (.must (decide (p0 < (↑a16 : Int)))
   (.must (decide (0 + Int.toNat p0 < a16))
   (.must z0
   (.must (decide (p0 < (↑a21 : Int)))
   (.must (decide (0 + Int.toNat p0 < a21))
   (.ask (Cm.run .eql (a17 (0 + Int.toNat p0)) (a22 (0 + Int.toNat p0)))
   (.ask (Cm.run .eql (a18 (0 + Int.toNat p0)) (a23 (0 + Int.toNat p0)))
   (.ask (Cm.run .eql (a19 (0 + Int.toNat p0)) (a24 (0 + Int.toNat p0)))
   (.ask (Cm.run .eql (a20 (0 + Int.toNat p0)) (a25 (0 + Int.toNat p0)))
   (.leaf (.next (.n1 (Ar.run .add .i64 p0 1)) []))
   (.leaf (.done false [])))
   (.leaf (.done false [])))
   (.leaf (.done false [])))
   (.leaf (.done false [])))))))))
   (.leaf (.done true []))

noncomputable def duoA (a0 : Bool) (a1 a2 a3 a4 : Int) (a5 : Nat) (a6 a7 : Nat → Int) (a8 : Bool) (a9 a10 a11 a12 : Int) (a13 : Nat) (a14 a15 : Nat → Int) (a16 : Nat) (a17 a18 a19 a20 : Nat → Int) (a21 : Nat) (a22 a23 a24 a25 : Nat → Int) : AF duoN duoR where
  code := duoCode
  base := 4
  nt := 79
  m := 400
  un := []
  W := []
  h0 := [(0, ⟨.arg a5 2 (fun i => [.int .i64 (.x (a6 i)), .int .i64 (.x (a7 i))]) (fun _ => ⟨rfl, rfl⟩), 2, true, none⟩), (1, ⟨.arg a13 2 (fun i => [.int .i64 (.x (a14 i)), .int .i64 (.x (a15 i))]) (fun _ => ⟨rfl, rfl⟩), 2, true, none⟩), (2, ⟨.arg a16 4 (fun i => [.int .i64 (.x (a17 i)), .int .i64 (.x (a18 i)), .int .i64 (.x (a19 i)), .int .i64 (.x (a20 i))]) (fun _ => ⟨rfl, rfl⟩), 4, true, none⟩), (3, ⟨.arg a21 4 (fun i => [.int .i64 (.x (a22 i)), .int .i64 (.x (a23 i)), .int .i64 (.x (a24 i)), .int .i64 (.x (a25 i))]) (fun _ => ⟨rfl, rfl⟩), 4, true, none⟩)]
  args := [.agg [.bool (.x a0), .int .i64 (.x a1), .int .i64 (.x a2), .int .i64 (.x a3), .int .i64 (.x a4), .sla 0 2 0 a5], .agg [.bool (.x a8), .int .i64 (.x a9), .int .i64 (.x a10), .int .i64 (.x a11), .int .i64 (.x a12), .sla 1 2 0 a13], .sla 2 4 0 a16, .sla 3 4 0 a21]
  res := (Try.f20).results.toList
  path := fun a => match a with
   | .n0 p0 => [1, 1, 0, 1, 0]
   | .n1 p0 => [1, 1, 1, 0, 1, 0]
  pd := fun a => match a with
   | .n0 p0 => ⟨[(2, .sla 2 4 0 a16), (3, .sla 3 4 0 a21), (4, .ptr (some (4, 0))), (5, .ptr (some (5, 0))), (9, .int .i64 (.x p0))], [(4, ⟨.lit [.bool (.x a0), .int .i64 (.x a1), .int .i64 (.x a2), .int .i64 (.x a3), .int .i64 (.x a4), .sla 0 2 0 a5], 0, true, none⟩), (5, ⟨.lit [.bool (.x a8), .int .i64 (.x a9), .int .i64 (.x a10), .int .i64 (.x a11), .int .i64 (.x a12), .sla 1 2 0 a13], 0, true, none⟩)], 6, []⟩
   | .n1 p0 => ⟨[(2, .sla 2 4 0 a16), (3, .sla 3 4 0 a21), (10, .int .i64 (.x p0))], [], 4, []⟩
  D0 := duoD0 a0 a1 a2 a3 a4 a5 a6 a7 a8 a9 a10 a11 a12 a13 a14 a15 a16 a17 a18 a19 a20 a21 a22 a23 a24 a25
  D := duoD a0 a1 a2 a3 a4 a5 a6 a7 a8 a9 a10 a11 a12 a13 a14 a15 a16 a17 a18 a19 a20 a21 a22 a23 a24 a25
  rc := (fun v => .bool (.x v))
  rh := (fun v => [])
  rn := (fun v => 4)
  rx := (fun v => [])
  rgo := (fun _ => none)
theorem duostart (a0 : Bool) (a1 a2 a3 a4 : Int) (a5 : Nat) (a6 a7 : Nat → Int) (a8 : Bool) (a9 a10 a11 a12 : Int) (a13 : Nat) (a14 a15 : Nat → Int) (a16 : Nat) (a17 a18 a19 a20 : Nat → Int) (a21 : Nat) (a22 a23 a24 a25 : Nat → Int) : AF.edgeOk (duoA a0 a1 a2 a3 a4 a5 a6 a7 a8 a9 a10 a11 a12 a13 a14 a15 a16 a17 a18 a19 a20 a21 a22 a23 a24 a25) (ctxOf Try.prog memo0) (duoD0 a0 a1 a2 a3 a4 a5 a6 a7 a8 a9 a10 a11 a12 a13 a14 a15 a16 a17 a18 a19 a20 a21 a22 a23 a24 a25) (AF.run0 (duoA a0 a1 a2 a3 a4 a5 a6 a7 a8 a9 a10 a11 a12 a13 a14 a15 a16 a17 a18 a19 a20 a21 a22 a23 a24 a25) (ctxOf Try.prog memo0)) := by unfold AF.edgeOk; kernel_rfl
theorem duonode0 (a0 : Bool) (a1 a2 a3 a4 : Int) (a5 : Nat) (a6 a7 : Nat → Int) (a8 : Bool) (a9 a10 a11 a12 : Int) (a13 : Nat) (a14 a15 : Nat → Int) (a16 : Nat) (a17 a18 a19 a20 : Nat → Int) (a21 : Nat) (a22 a23 a24 a25 : Nat → Int) (p0 : Int) : AF.edgeOk (duoA a0 a1 a2 a3 a4 a5 a6 a7 a8 a9 a10 a11 a12 a13 a14 a15 a16 a17 a18 a19 a20 a21 a22 a23 a24 a25) (ctxOf Try.prog memo0) (duoD a0 a1 a2 a3 a4 a5 a6 a7 a8 a9 a10 a11 a12 a13 a14 a15 a16 a17 a18 a19 a20 a21 a22 a23 a24 a25 (.n0 p0)) (AF.runN (duoA a0 a1 a2 a3 a4 a5 a6 a7 a8 a9 a10 a11 a12 a13 a14 a15 a16 a17 a18 a19 a20 a21 a22 a23 a24 a25) (ctxOf Try.prog memo0) (.n0 p0)) := by unfold AF.edgeOk; kernel_rfl
theorem duonode1 (a0 : Bool) (a1 a2 a3 a4 : Int) (a5 : Nat) (a6 a7 : Nat → Int) (a8 : Bool) (a9 a10 a11 a12 : Int) (a13 : Nat) (a14 a15 : Nat → Int) (a16 : Nat) (a17 a18 a19 a20 : Nat → Int) (a21 : Nat) (a22 a23 a24 a25 : Nat → Int) (p0 : Int) : AF.edgeOk (duoA a0 a1 a2 a3 a4 a5 a6 a7 a8 a9 a10 a11 a12 a13 a14 a15 a16 a17 a18 a19 a20 a21 a22 a23 a24 a25) (ctxOf Try.prog memo0) (duoD a0 a1 a2 a3 a4 a5 a6 a7 a8 a9 a10 a11 a12 a13 a14 a15 a16 a17 a18 a19 a20 a21 a22 a23 a24 a25 (.n1 p0)) (AF.runN (duoA a0 a1 a2 a3 a4 a5 a6 a7 a8 a9 a10 a11 a12 a13 a14 a15 a16 a17 a18 a19 a20 a21 a22 a23 a24 a25) (ctxOf Try.prog memo0) (.n1 p0)) := by unfold AF.edgeOk; kernel_rfl
theorem duook (a0 : Bool) (a1 a2 a3 a4 : Int) (a5 : Nat) (a6 a7 : Nat → Int) (a8 : Bool) (a9 a10 a11 a12 : Int) (a13 : Nat) (a14 a15 : Nat → Int) (a16 : Nat) (a17 a18 a19 a20 : Nat → Int) (a21 : Nat) (a22 a23 a24 a25 : Nat → Int) : (duoA a0 a1 a2 a3 a4 a5 a6 a7 a8 a9 a10 a11 a12 a13 a14 a15 a16 a17 a18 a19 a20 a21 a22 a23 a24 a25).Ok Try.prog (ctxOf Try.prog memo0) where
  regs := by kernel_rfl
  h0 := by kernel_rfl
  start := duostart a0 a1 a2 a3 a4 a5 a6 a7 a8 a9 a10 a11 a12 a13 a14 a15 a16 a17 a18 a19 a20 a21 a22 a23 a24 a25
  node := fun a _ => match a with
   | .n0 p0 => duonode0 a0 a1 a2 a3 a4 a5 a6 a7 a8 a9 a10 a11 a12 a13 a14 a15 a16 a17 a18 a19 a20 a21 a22 a23 a24 a25 p0
   | .n1 p0 => duonode1 a0 a1 a2 a3 a4 a5 a6 a7 a8 a9 a10 a11 a12 a13 a14 a15 a16 a17 a18 a19 a20 a21 a22 a23 a24 a25 p0
  pd := fun a => match a with
   | .n0 p0 => ⟨(fa_cons rfl (fa_cons rfl (fa_cons rfl (fa_cons rfl (fa_cons rfl fa_nil))))), (fa_cons ⟨.inl (Nat.le_of_ble_eq_true rfl), rfl, rfl⟩ (fa_cons ⟨.inl (Nat.le_of_ble_eq_true rfl), rfl, rfl⟩ fa_nil)), fa_nil, rfl⟩
   | .n1 p0 => ⟨(fa_cons rfl (fa_cons rfl (fa_cons rfl fa_nil))), fa_nil, fa_nil, rfl⟩
  le := fun a => match a with
   | .n0 p0 => Nat.le_of_ble_eq_true rfl
   | .n1 p0 => Nat.le_of_ble_eq_true rfl
  rd := fun v => ⟨⟨fa_nil, fa_nil, fa_nil, rfl⟩, rfl⟩
  wb := rfl
theorem duohR {ρ : Env} (a0 : Bool) (a1 a2 a3 a4 : Int) (a5 : Nat) (a6 a7 : Nat → Int) (a8 : Bool) (a9 a10 a11 a12 : Int) (a13 : Nat) (a14 a15 : Nat → Int) (a16 : Nat) (a17 a18 a19 a20 : Nat → Int) (a21 : Nat) (a22 a23 a24 a25 : Nat → Int) (hM : MemoOk Try.prog (ctxOf Try.prog memo0) ρ) : ∀ X a q n D, FxOk ρ X → X.base = (duoA a0 a1 a2 a3 a4 a5 a6 a7 a8 a9 a10 a11 a12 a13 a14 a15 a16 a17 a18 a19 a20 a21 a22 a23 a24 a25).base → X.nt = (duoA a0 a1 a2 a3 a4 a5 a6 a7 a8 a9 a10 a11 a12 a13 a14 a15 a16 a17 a18 a19 a20 a21 a22 a23 a24 a25).nt → X.W = (duoA a0 a1 a2 a3 a4 a5 a6 a7 a8 a9 a10 a11 a12 a13 a14 a15 a16 a17 a18 a19 a20 a21 a22 a23 a24 a25).W → (duoA a0 a1 a2 a3 a4 a5 a6 a7 a8 a9 a10 a11 a12 a13 a14 a15 a16 a17 a18 a19 a20 a21 a22 a23 a24 a25).rgo a = some q → q n = some D → (duoA a0 a1 a2 a3 a4 a5 a6 a7 a8 a9 a10 a11 a12 a13 a14 a15 a16 a17 a18 a19 a20 a21 a22 a23 a24 a25).RangeOk Try.prog ρ X a D := AF.noRange rfl
theorem duoctr {ρ : Env} (a0 : Bool) (a1 a2 a3 a4 : Int) (a5 : Nat) (a6 a7 : Nat → Int) (a8 : Bool) (a9 a10 a11 a12 : Int) (a13 : Nat) (a14 a15 : Nat → Int) (a16 : Nat) (a17 a18 a19 a20 : Nat → Int) (a21 : Nat) (a22 a23 a24 a25 : Nat → Int) {n : Nat} {v : duoR} (hM : MemoOk Try.prog (ctxOf Try.prog memo0) ρ) (hv : (duoA a0 a1 a2 a3 a4 a5 a6 a7 a8 a9 a10 a11 a12 a13 a14 a15 a16 a17 a18 a19 a20 a21 a22 a23 a24 a25).run n = some v) :
    Ctr Try.prog ρ 20 (duoA a0 a1 a2 a3 a4 a5 a6 a7 a8 a9 a10 a11 a12 a13 a14 a15 a16 a17 a18 a19 a20 a21 a22 a23 a24 a25).args (duoA a0 a1 a2 a3 a4 a5 a6 a7 a8 a9 a10 a11 a12 a13 a14 a15 a16 a17 a18 a19 a20 a21 a22 a23 a24 a25).H0 (duoA a0 a1 a2 a3 a4 a5 a6 a7 a8 a9 a10 a11 a12 a13 a14 a15 a16 a17 a18 a19 a20 a21 a22 a23 a24 a25).base (duoA a0 a1 a2 a3 a4 a5 a6 a7 a8 a9 a10 a11 a12 a13 a14 a15 a16 a17 a18 a19 a20 a21 a22 a23 a24 a25).W ((duoA a0 a1 a2 a3 a4 a5 a6 a7 a8 a9 a10 a11 a12 a13 a14 a15 a16 a17 a18 a19 a20 a21 a22 a23 a24 a25).rc v) (putH (duoA a0 a1 a2 a3 a4 a5 a6 a7 a8 a9 a10 a11 a12 a13 a14 a15 a16 a17 a18 a19 a20 a21 a22 a23 a24 a25).H0 ((duoA a0 a1 a2 a3 a4 a5 a6 a7 a8 a9 a10 a11 a12 a13 a14 a15 a16 a17 a18 a19 a20 a21 a22 a23 a24 a25).rh v ++ (duoA a0 a1 a2 a3 a4 a5 a6 a7 a8 a9 a10 a11 a12 a13 a14 a15 a16 a17 a18 a19 a20 a21 a22 a23 a24 a25).rx v)) ((duoA a0 a1 a2 a3 a4 a5 a6 a7 a8 a9 a10 a11 a12 a13 a14 a15 a16 a17 a18 a19 a20 a21 a22 a23 a24 a25).rn v) :=
  AF.ctr try_ok hM (duook a0 a1 a2 a3 a4 a5 a6 a7 a8 a9 a10 a11 a12 a13 a14 a15 a16 a17 a18 a19 a20 a21 a22 a23 a24 a25) (fn := Try.f20) Try.func20 rfl rfl (Nat.le_of_ble_eq_true rfl) rfl (duohR a0 a1 a2 a3 a4 a5 a6 a7 a8 a9 a10 a11 a12 a13 a14 a15 a16 a17 a18 a19 a20 a21 a22 a23 a24 a25 hM) hv
theorem duomem {ρ : Env} : MemoOk Try.prog (ctxOf Try.prog memo0) ρ := memo0_ok
abbrev duoP : List AQ := [.agg [.bool, .int .i64, .int .i64, .int .i64, .int .i64, .rows [some .i64, some .i64]], .agg [.bool, .int .i64, .int .i64, .int .i64, .int .i64, .rows [some .i64, some .i64]], .rows [some .i64, some .i64, some .i64, some .i64], .rows [some .i64, some .i64, some .i64, some .i64]]
noncomputable def duoF (v : AW) : AF duoN duoR := duoA (v.b.getD 0 false) (v.i.getD 0 0) (v.i.getD 1 0) (v.i.getD 2 0) (v.i.getD 3 0) (v.t.getD 0 .none).n ((v.t.getD 0 .none).c 0) ((v.t.getD 0 .none).c 1) (v.b.getD 1 false) (v.i.getD 4 0) (v.i.getD 5 0) (v.i.getD 6 0) (v.i.getD 7 0) (v.t.getD 1 .none).n ((v.t.getD 1 .none).c 0) ((v.t.getD 1 .none).c 1) (v.t.getD 2 .none).n ((v.t.getD 2 .none).c 0) ((v.t.getD 2 .none).c 1) ((v.t.getD 2 .none).c 2) ((v.t.getD 2 .none).c 3) (v.t.getD 3 .none).n ((v.t.getD 3 .none).c 0) ((v.t.getD 3 .none).c 1) ((v.t.getD 3 .none).c 2) ((v.t.getD 3 .none).c 3)
noncomputable def duoW : duoR → CV := fun v => .bool (.x v)
noncomputable def duoH : duoR → List (Nat × Blk) := fun v => []
instance : Inhabited duoR := ⟨false⟩
theorem duoknown {ρ : Env} (hM : MemoOk Try.prog (ctxOf Try.prog memo0) ρ) : KnownS Try.prog ρ 20 duoP duoF duoW duoH 4 where
  fn := ⟨Try.f20, Try.func20, rfl⟩
  le := Nat.le_of_ble_eq_true rfl
  full := fun r => rfl
  rg := fun r => rfl
  hg := fun r => fa_nil
  ctr := fun v n r h => duoctr (v.b.getD 0 false) (v.i.getD 0 0) (v.i.getD 1 0) (v.i.getD 2 0) (v.i.getD 3 0) (v.t.getD 0 .none).n ((v.t.getD 0 .none).c 0) ((v.t.getD 0 .none).c 1) (v.b.getD 1 false) (v.i.getD 4 0) (v.i.getD 5 0) (v.i.getD 6 0) (v.i.getD 7 0) (v.t.getD 1 .none).n ((v.t.getD 1 .none).c 0) ((v.t.getD 1 .none).c 1) (v.t.getD 2 .none).n ((v.t.getD 2 .none).c 0) ((v.t.getD 2 .none).c 1) ((v.t.getD 2 .none).c 2) ((v.t.getD 2 .none).c 3) (v.t.getD 3 .none).n ((v.t.getD 3 .none).c 0) ((v.t.getD 3 .none).c 1) ((v.t.getD 3 .none).c 2) ((v.t.getD 3 .none).c 3) hM h
end Go.Proofs.Ythagjhadjpangaa.Cx

/- Package die: reach, Wear, Targets, Reach; tools and orders that are as they were. -/
namespace Go.Proofs.Ythagjhadjpangaa.Cx
set_option linter.unusedVariables false
set_option linter.unusedSimpArgs false
set_option maxRecDepth 100000
set_option maxHeartbeats 4000000
open Go Go.RowKit
section
variable {a0 : Bool} {a1 a2 a3 a4 : Int} {a5 : Nat} {a6 a7 : Nat → Int} {a8 : Nat} {a9 a10 a11 a12 : Nat → Int} {a13 a14 a15 a16 a17 : Int}
theorem drc_gen (h : JobOk a1 a2 a3 a4 a5 a6 a7 a8 a9 a10 a11 a12) (h0 : 0 ≤ a16) (h1 : a16 ≤ a17) (h2 : a17 ≤ PS a9 a8) : AF.fin (drcA a0 a1 a2 a3 a4 a5 a6 a7 a8 a9 a10 a11 a12 a13 a14 a15 a16 a17) = true ∧ ∃ x y z, AF.val (drcA a0 a1 a2 a3 a4 a5 a6 a7 a8 a9 a10 a11 a12 a13 a14 a15 a16 a17) = (x, y, z) ∧ RchG a0 a1 a2 a3 a4 a5 a6 a7 a8 a9 a10 a11 a12 a13 a14 a15 a16 a17 x y z := by
  refine AF.val_satR (A := drcA a0 a1 a2 a3 a4 a5 a6 a7 a8 a9 a10 a11 a12 a13 a14 a15 a16 a17) (E := fun v => ∃ x y z, v = (x, y, z) ∧ RchG a0 a1 a2 a3 a4 a5 a6 a7 a8 a9 a10 a11 a12 a13 a14 a15 a16 a17 x y z) (Inv := fun _ => True) drc_mono (fun _ => 0) (fun a _ => .inr ?_) (show True from trivial)
  cases a with
  | n0 =>
    obtain ⟨n, v, hv, hE⟩ := drs_gen (a13 := a13) (a14 := a14) (a15 := a15) (a0 := a0) h h0 h1 h2
    refine ⟨_, n, drcRg0 a0 a1 a2 a3 a4 a5 a6 a7 a8 a9 a10 a11 a12 a13 a14 a15 a16 a17 v, rfl, ?_, ?_⟩
    · show Option.map _ (AF.run _ n) = _
      rw [hv]; rfl
    · cases v with
      | r0 x y _ _ => exact ⟨x, y, a17, rfl, hE⟩
      | r1 x y z _ _ => exact ⟨x, y, z, rfl, hE⟩
/-- What a range over parts wears. -/
def WrnS (a6 a7 : Nat → Int) (a8 : Nat) (a9 a10 : Nat → Int) (a13 a14 : Int) : dwes0R → Prop
  | .r0 x y => x = WSum (gW a6 a10 a9 a8) a13 (a14 - a13).toNat ∧ y = WSum (gW a7 a10 a9 a8) a13 (a14 - a13).toNat
theorem dws_gen (h : JobOk a1 a2 a3 a4 a5 a6 a7 a8 a9 a10 a11 a12) (h0 : 0 ≤ a13) (h1 : a13 ≤ a14) (h2 : a14 ≤ PS a9 a8) : ∃ n v, AF.run (dwes0A a0 a1 a2 a3 a4 a5 a6 a7 a8 a9 a10 a11 a12 a13 a14 a0 a1 a2 a3 a4 a5 a8 (PS a9 a8)) n = some v ∧ WrnS a6 a7 a8 a9 a10 a13 a14 v := by
  obtain ⟨_, tw, s1, s2⟩ := h.tool
  have few := h.few
  have tot := (h.wsum (f := a13) (j := 0) h0 (by omega)).2.2
  refine AF.run_sat (E := WrnS a6 a7 a8 a9 a10 a13 a14) (Inv := fun b => match b with | .n0 q0 q1 q2 q3 => 0 ≤ q1 ∧ q1 ≤ a8 ∧ q0 = PS a9 q1.toNat ∧ q2 = WSum (gW a6 a10 a9 a8) a13 (cN a13 a14 q0) ∧ q3 = WSum (gW a7 a10 a9 a8) a13 (cN a13 a14 q0))
    (fun b => match b with | .n0 q0 q1 q2 q3 => (a8 - q1).toNat) (fun b => rfl) (fun a hI => ?_) ?_
  · cases a with
    | n0 q0 q1 q2 q3 =>
      obtain ⟨g0, g1, e0, e2, e3⟩ := hI
      have cb : (cN a13 a14 q0 : Int) ≤ a14 - a13 := by unfold cN; omega
      have b := h.wsum (f := a13) (j := cN a13 a14 q0) h0 (by omega)
      rw [← e2, ← e3] at b
      show DD.sat _ _ (dwes0D a0 a1 a2 a3 a4 a5 a6 a7 a8 a9 a10 a11 a12 a13 a14 a0 a1 a2 a3 a4 a5 a8 (PS a9 a8) (.n0 q0 q1 q2 q3))
      unfold dwes0D
      have r0 := PS_rng h.pc q1.toNat (by omega)
      have ea : q1 < a8 → Ar.run .add .i64 q1 1 = q1 + 1 := fun h => arAdd (by omega)
      by_cases hq : q1 < a8
      · have pk := h.pc q1.toNat (by omega)
        obtain ⟨⟨_, _, z1, z2, z3⟩, st⟩ := h.ord q1.toNat (by omega)
        have nx : PS a9 (q1 + 1).toNat = q0 + a9 q1.toNat := by rw [show (q1 + 1).toNat = q1.toNat + 1 by omega, PS, e0]
        have nr := PS_mono h.pc (j := q1.toNat + 1) a8 (by omega) (Nat.le_refl _)
        rw [show q1.toNat + 1 = (q1 + 1).toNat by omega, nx] at nr
        obtain ⟨ps1, ps2⟩ := part_split (f := a13) (t := a14) (q0 := q0) (q1 := q0 + a9 q1.toNat) h1 (by omega)
        have f1 : Ar.run .add .i64 q0 (a9 q1.toNat) = q0 + a9 q1.toNat := arAdd (by omega)
        have f2 : Ar.run .sub .i64 (min (q0 + a9 q1.toNat) a14) (max q0 a13) = min (q0 + a9 q1.toNat) a14 - max q0 a13 := arSub (by omega)
        simp only [DD.sat, Nat.zero_add, cmLss, cmLssF, cmLeq, cmLeqF, cmGtr, cmGtrF, cmGeq, cmGeqF, cmEql, cmEqlF, cmNeq, cmNeqF, decide_eq_true_eq, Bool.not_eq_true', Bool.not_eq_false', f1, arMn, arMx, f2, ea hq]
        refine ⟨fun _ => ⟨g0, hq, by omega, fun hn => ?_, fun hn => ?_⟩, fun hx => by omega⟩
        · obtain ⟨p1, p2, p3⟩ := ps1 hn
          have hnb : min (q0 + a9 q1.toNat) a14 - max q0 a13 ≤ 1000000 := by omega
          obtain ⟨n, hnn⟩ : ∃ n : Nat, (n : Int) = min (q0 + a9 q1.toNat) a14 - max q0 a13 := ⟨(min (q0 + a9 q1.toNat) a14 - max q0 a13).toNat, by omega⟩
          have hk := part_ord (f := a13) (j := cN a13 a14 q0) (n := n) h (k := q1.toNat) (by omega) (by omega) (by rw [show q1.toNat + 1 = (q1 + 1).toNat by omega, nx]; omega)
          rw [← hnn] at p2 p3 hn ⊢
          have t2 : AF.fin (dwoA a0 a1 a2 a3 a4 a5 a6 a7 a8 a9 a10 a11 a12 (PS a9 a8) q2 q3 (a10 q1.toNat) n) = true ∧ _ := dwo_val tw st (by omega) (by omega) (by omega)
          have t2v : AF.val (dwoA a0 a1 a2 a3 a4 a5 (fun i => a6 i) (fun i => a7 i) a8 (fun i => a9 i) (fun i => a10 i) (fun i => a11 i) (fun i => a12 i) (PS a9 a8) q2 q3 (a10 q1.toNat) n) = _ := t2.2
          have jc : cN a13 a14 (q0 + a9 q1.toNat) = cN a13 a14 q0 + n := by omega
          simp only [t2v]
          refine ⟨Nat.le_refl _, shape_ok fun i _ => rfl, Nat.le_refl _, shape_ok fun i _ => rfl, t2.1, ⟨by omega, by omega, nx.symm, ?_, ?_⟩, by omega⟩
          · rw [jc, part_w (a10 := a10) a6 hk n (Nat.le_refl _), ← e2]
          · rw [jc, part_w (a10 := a10) a7 hk n (Nat.le_refl _), ← e3]
        · rw [ps2 hn]
          exact ⟨⟨by omega, by omega, nx.symm, e2, e3⟩, by omega⟩
      · simp only [DD.sat, Nat.zero_add, cmLss, cmLssF, cmLeq, cmLeqF, cmGtr, cmGtrF, cmGeq, cmGeqF, cmEql, cmEqlF, cmNeq, cmNeqF, decide_eq_true_eq, Bool.not_eq_true', Bool.not_eq_false']
        have hq1 : q1.toNat = a8 := by omega
        rw [hq1] at e0
        have ec : cN a13 a14 q0 = (a14 - a13).toNat := by unfold cN; omega
        rw [ec] at e2 e3
        exact ⟨fun hx => by omega, fun _ => ⟨e2, e3⟩⟩
  · have z : cN a13 a14 0 = 0 := by unfold cN; omega
    show 0 ≤ (0 : Int) ∧ (0 : Int) ≤ a8 ∧ _ ∧ _ ∧ _
    rw [z]
    exact ⟨by omega, by omega, rfl, rfl, rfl⟩
/-- What Wear yields. -/
def WeaE (a1 a2 a3 a4 : Int) (a5 : Nat) (a6 a7 : Nat → Int) (a8 : Nat) (a9 a10 a11 a12 : Nat → Int) (a13 a14 : Int) (v : Int × Int × Int) : Prop :=
  ∃ e, CkS a5 a8 (ToolOk a5 a6 a7 a1 a2 a3 a4) a9 a10 a11 a12 e ∧ (e ≠ 0 ∧ v = (0, 0, e) ∨ e = 0 ∧ (¬ (0 ≤ a13 ∧ a13 ≤ a14 ∧ a14 ≤ PS a9 a8) ∧ v = (0, 0, 3) ∨
    (0 ≤ a13 ∧ a13 ≤ a14 ∧ a14 ≤ PS a9 a8) ∧ v = (WSum (gW a6 a10 a9 a8) a13 (a14 - a13).toNat, WSum (gW a7 a10 a9 a8) a13 (a14 - a13).toNat, 0)))
theorem CkS.job (h : CkS a5 a8 (ToolOk a5 a6 a7 a1 a2 a3 a4) a9 a10 a11 a12 0) : JobOk a1 a2 a3 a4 a5 a6 a7 a8 a9 a10 a11 a12 := ⟨h.ok.1, h.ok.2.2.2.1, h.ok.2.2.2.2⟩
theorem dwe_mono : AF.Mono (dweA a0 a1 a2 a3 a4 a5 a6 a7 a8 a9 a10 a11 a12 a13 a14) := AF.mono_map fun a => by
  cases a with
  | n0 p0 p1 p2 p3 p4 p5 p6 p7 => exact .inr ⟨_, _, _, _, AF.mono_none (fun _ => rfl), rfl⟩
theorem dwe_val (hn : a5 ≤ 10000) (hm : a8 ≤ 10000) : AF.fin (dweA a0 a1 a2 a3 a4 a5 a6 a7 a8 a9 a10 a11 a12 a13 a14) = true ∧ WeaE a1 a2 a3 a4 a5 a6 a7 a8 a9 a10 a11 a12 a13 a14 (AF.val (dweA a0 a1 a2 a3 a4 a5 a6 a7 a8 a9 a10 a11 a12 a13 a14)) := by
  obtain ⟨hf, e, hC, hv⟩ := dsh_val (a0 := a0) (a1 := a1) (a2 := a2) (a3 := a3) (a4 := a4) (a5 := a5) (a6 := a6) (a7 := a7) (a8 := a8) (a9 := a9) (a10 := a10) (a11 := a11) (a12 := a12) hn hm
  refine AF.val_satR (A := dweA a0 a1 a2 a3 a4 a5 a6 a7 a8 a9 a10 a11 a12 a13 a14) (E := WeaE a1 a2 a3 a4 a5 a6 a7 a8 a9 a10 a11 a12 a13 a14) (Inv := fun b => match b with | .n0 p0 p1 p2 p3 p4 p5 p6 p7 => (p0 = a0 ∧ p1 = a1 ∧ p2 = a2 ∧ p3 = a3 ∧ p4 = a4 ∧ p5 = a5 ∧ p6 = a8 ∧ p7 = PS a9 a8) ∧ e = 0 ∧ 0 ≤ a13 ∧ a13 ≤ a14 ∧ a14 ≤ PS a9 a8) dwe_mono (fun _ => 0) (fun a hI => .inr ?_) ?_
  · cases a with
    | n0 p0 p1 p2 p3 p4 p5 p6 p7 =>
      obtain ⟨⟨rfl, rfl, rfl, rfl, rfl, rfl, rfl, rfl⟩, rfl, g0, g1, g2⟩ := hI
      obtain ⟨n, v, hv, hE⟩ := dws_gen (a0 := p0) hC.job g0 g1 g2
      refine ⟨_, n, dweRg0 p0 p1 p2 p3 p4 p5 a6 a7 p6 a9 a10 a11 a12 a13 a14 p0 p1 p2 p3 p4 p5 p6 (PS a9 p6) v, rfl, ?_, ?_⟩
      · show Option.map _ (AF.run _ n) = _
        rw [hv]; rfl
      · cases v with
        | r0 x y =>
          obtain ⟨rfl, rfl⟩ := hE
          exact ⟨0, hC, .inr ⟨rfl, .inr ⟨⟨g0, g1, g2⟩, rfl⟩⟩⟩
  · show DD.sat _ _ (dweD0 a0 a1 a2 a3 a4 a5 a6 a7 a8 a9 a10 a11 a12 a13 a14)
    unfold dweD0
    rcases hv with ⟨he, hv⟩ | ⟨rfl, hv⟩
    · have hv' : AF.val (dshA a0 a1 a2 a3 a4 a5 (fun i => a6 i) (fun i => a7 i) a8 (fun i => a9 i) (fun i => a10 i) (fun i => a11 i) (fun i => a12 i)) = .r0 e := hv
      simp only [DD.sat, Nat.zero_add, cmLss, cmLssF, cmLeq, cmLeqF, cmGtr, cmGtrF, cmGeq, cmGeqF, cmEql, cmEqlF, cmNeq, cmNeqF, decide_eq_true_eq, Bool.not_eq_true', Bool.not_eq_false', hv', dshw8]
      refine ⟨Nat.le_refl _, shape_ok fun i _ => rfl, Nat.le_refl _, shape_ok fun i _ => rfl, hf, fun _ => ⟨e, hC, .inl ⟨he, rfl⟩⟩, fun hx => absurd hx he⟩
    · have hv' : AF.val (dshA a0 a1 a2 a3 a4 a5 (fun i => a6 i) (fun i => a7 i) a8 (fun i => a9 i) (fun i => a10 i) (fun i => a11 i) (fun i => a12 i)) = .r1 a0 a1 a2 a3 a4 a5 a8 (PS a9 a8) := hv
      have bad : ¬ (0 ≤ a13 ∧ a13 ≤ a14 ∧ a14 ≤ PS a9 a8) → WeaE a1 a2 a3 a4 a5 a6 a7 a8 a9 a10 a11 a12 a13 a14 (0, 0, 3) := fun hb => ⟨0, hC, .inr ⟨rfl, .inl ⟨hb, rfl⟩⟩⟩
      simp only [DD.sat, Nat.zero_add, cmLss, cmLssF, cmLeq, cmLeqF, cmGtr, cmGtrF, cmGeq, cmGeqF, cmEql, cmEqlF, cmNeq, cmNeqF, decide_eq_true_eq, Bool.not_eq_true', Bool.not_eq_false', hv', dshw0, dshw1, dshw2, dshw3, dshw4, dshw5, dshw6, dshw7, dshw8]
      refine ⟨Nat.le_refl _, shape_ok fun i _ => rfl, Nat.le_refl _, shape_ok fun i _ => rfl, hf, fun hx => absurd rfl hx, fun _ => ⟨fun h => bad (by omega), fun h1 => ⟨fun h => bad (by omega), fun h2 => ⟨fun h => bad (by omega), fun h3 => ⟨fun h => bad (by omega), fun h4 => ⟨fun h => bad (by omega), fun h5 => (by repeat' (first | trivial | omega | apply And.intro))⟩⟩⟩⟩⟩⟩
/-- What Targets yields. -/
def TarE (a0 : Bool) (a1 a2 a3 a4 : Int) (a5 : Nat) (a6 a7 : Nat → Int) (a8 : Nat) (a9 a10 a11 a12 : Nat → Int) (a13 a14 : Int) (v : Int × Int × Int) : Prop :=
  ∃ e, CkS a5 a8 (ToolOk a5 a6 a7 a1 a2 a3 a4) a9 a10 a11 a12 e ∧ (e ≠ 0 ∧ v = (0, 0, e) ∨ e = 0 ∧ (¬ (0 ≤ a13 ∧ a13 < a14 ∧ a14 ≤ PS a9 a8) ∧ v = (0, 0, 3) ∨
    (0 ≤ a13 ∧ a13 < a14 ∧ a14 ≤ PS a9 a8) ∧ (LoM (-10000000000) (tlP a0 a1 a3 a6 a7 a10 a9 a11 a8 a13) (a14 - a13).toNat > HiM 20000000000 (thP a0 a2 a4 a6 a7 a10 a9 a12 a8 a13) (a14 - a13).toNat ∧ v = (0, 0, 9) ∨
      LoM (-10000000000) (tlP a0 a1 a3 a6 a7 a10 a9 a11 a8 a13) (a14 - a13).toNat ≤ HiM 20000000000 (thP a0 a2 a4 a6 a7 a10 a9 a12 a8 a13) (a14 - a13).toNat ∧ v = (LoM (-10000000000) (tlP a0 a1 a3 a6 a7 a10 a9 a11 a8 a13) (a14 - a13).toNat, HiM 20000000000 (thP a0 a2 a4 a6 a7 a10 a9 a12 a8 a13) (a14 - a13).toNat, 0))))
theorem dta_val (hn : a5 ≤ 10000) (hm : a8 ≤ 10000) : AF.fin (dtaA a0 a1 a2 a3 a4 a5 a6 a7 a8 a9 a10 a11 a12 a13 a14) = true ∧ TarE a0 a1 a2 a3 a4 a5 a6 a7 a8 a9 a10 a11 a12 a13 a14 (AF.val (dtaA a0 a1 a2 a3 a4 a5 a6 a7 a8 a9 a10 a11 a12 a13 a14)) := by
  obtain ⟨hf, e, hC, hv⟩ := dsh_val (a0 := a0) (a1 := a1) (a2 := a2) (a3 := a3) (a4 := a4) (a5 := a5) (a6 := a6) (a7 := a7) (a8 := a8) (a9 := a9) (a10 := a10) (a11 := a11) (a12 := a12) hn hm
  refine flat_val (E := TarE a0 a1 a2 a3 a4 a5 a6 a7 a8 a9 a10 a11 a12 a13 a14) (fun _ => rfl) ?_
  show DD.sat _ _ (dtaD0 a0 a1 a2 a3 a4 a5 a6 a7 a8 a9 a10 a11 a12 a13 a14)
  unfold dtaD0
  rcases hv with ⟨he, hv⟩ | ⟨rfl, hv⟩
  · have hv' : AF.val (dshA a0 a1 a2 a3 a4 a5 (fun i => a6 i) (fun i => a7 i) a8 (fun i => a9 i) (fun i => a10 i) (fun i => a11 i) (fun i => a12 i)) = .r0 e := hv
    simp only [DD.sat, Nat.zero_add, cmLss, cmLssF, cmLeq, cmLeqF, cmGtr, cmGtrF, cmGeq, cmGeqF, cmEql, cmEqlF, cmNeq, cmNeqF, decide_eq_true_eq, Bool.not_eq_true', Bool.not_eq_false', hv', dshw8]
    refine ⟨Nat.le_refl _, shape_ok fun i _ => rfl, Nat.le_refl _, shape_ok fun i _ => rfl, hf, fun _ => ⟨e, hC, .inl ⟨he, rfl⟩⟩, fun hx => absurd hx he⟩
  · have hv' : AF.val (dshA a0 a1 a2 a3 a4 a5 (fun i => a6 i) (fun i => a7 i) a8 (fun i => a9 i) (fun i => a10 i) (fun i => a11 i) (fun i => a12 i)) = .r1 a0 a1 a2 a3 a4 a5 a8 (PS a9 a8) := hv
    have bad : ¬ (0 ≤ a13 ∧ a13 < a14 ∧ a14 ≤ PS a9 a8) → TarE a0 a1 a2 a3 a4 a5 a6 a7 a8 a9 a10 a11 a12 a13 a14 (0, 0, 3) := fun hb => ⟨0, hC, .inr ⟨rfl, .inl ⟨hb, rfl⟩⟩⟩
    simp only [DD.sat, Nat.zero_add, cmLss, cmLssF, cmLeq, cmLeqF, cmGtr, cmGtrF, cmGeq, cmGeqF, cmEql, cmEqlF, cmNeq, cmNeqF, decide_eq_true_eq, Bool.not_eq_true', Bool.not_eq_false', hv', dshw0, dshw1, dshw2, dshw3, dshw4, dshw5, dshw6, dshw7, dshw8]
    refine ⟨Nat.le_refl _, shape_ok fun i _ => rfl, Nat.le_refl _, shape_ok fun i _ => rfl, hf, fun hx => absurd rfl hx, fun _ => ⟨fun h => bad (by omega), fun h1 => ⟨fun h => bad (by omega), fun h2 => ⟨fun h => bad (by omega), fun h3 => ⟨fun h => bad (by omega), fun h4 => ⟨fun h => bad (by omega), fun h5 => ?_⟩⟩⟩⟩⟩⟩
    obtain ⟨rf, x, y, z, rv, J, j1, j2, j3, rfl, rfl, rfl⟩ := drc_gen (a0 := a0) (a13 := PS a9 a8) (a14 := -10000000000) (a15 := 20000000000) hC.job (by omega) (Int.le_of_lt h5) (by omega)
    have rv' : AF.val (drcA a0 a1 a2 a3 a4 a5 (fun i => a6 i) (fun i => a7 i) a8 (fun i => a9 i) (fun i => a10 i) (fun i => a11 i) (fun i => a12 i) (PS a9 a8) (-10000000000) 20000000000 a13 a14) = _ := rv
    simp only [rv']
    refine ⟨Nat.le_refl _, shape_ok fun i _ => rfl, Nat.le_refl _, shape_ok fun i _ => rfl, rf, fun hz => ⟨0, hC, .inr ⟨rfl, .inr ⟨by omega, .inl ⟨?_, rfl⟩⟩⟩⟩, fun hz => ?_⟩
    · have g := j2 (by omega)
      have m1 := LoM_mono (t := -10000000000) (tl := tlP a0 a1 a3 a6 a7 a10 a9 a11 a8 a13) (i := J + 1) (a14 - a13).toNat (by omega)
      have m2 := HiM_mono (t := 20000000000) (th := thP a0 a2 a4 a6 a7 a10 a9 a12 a8 a13) (i := J + 1) (a14 - a13).toNat (by omega)
      omega
    · obtain rfl : J = (a14 - a13).toNat := by omega
      exact ⟨0, hC, .inr ⟨rfl, .inr ⟨by omega, .inr ⟨j3 (by omega), rfl⟩⟩⟩⟩
theorem duo_val (hn : a5 ≤ 10000) (hm : a8 ≤ 10000) : AF.fin (duoA a0 a1 a2 a3 a4 a5 a6 a7 a0 a1 a2 a3 a4 a5 a6 a7 a8 a9 a10 a11 a12 a8 a9 a10 a11 a12) = true ∧ AF.val (duoA a0 a1 a2 a3 a4 a5 a6 a7 a0 a1 a2 a3 a4 a5 a6 a7 a8 a9 a10 a11 a12 a8 a9 a10 a11 a12) = true := by
  refine AF.val_sat (E := fun v => v = true) (Inv := fun b => match b with | .n0 p => 0 ≤ p ∧ p ≤ a5 | .n1 p => 0 ≤ p ∧ p ≤ a8)
    (fun b => match b with | .n0 p => (a5 - p).toNat + a8 + 1 | .n1 p => (a8 - p).toNat) (fun _ => rfl) (fun a hI => ?_) ?_
  · cases a with
    | n0 p =>
      obtain ⟨g0, g1⟩ := hI
      show DD.sat _ _ (duoD a0 a1 a2 a3 a4 a5 a6 a7 a0 a1 a2 a3 a4 a5 a6 a7 a8 a9 a10 a11 a12 a8 a9 a10 a11 a12 (.n0 p))
      unfold duoD
      have e1 : p < a5 → Ar.run .add .i64 p 1 = p + 1 := fun h => arAdd (by omega)
      simp only [DD.sat, cmLss, cmLssF, cmEql, cmEqlF, decide_eq_true_eq]
      refine ⟨fun h => ⟨g0, h, by omega, g0, h, by omega, fun _ => ⟨fun _ => ?_, fun hx => (hx rfl).elim⟩, fun hx => (hx rfl).elim⟩, fun h => ⟨⟨by omega, by omega⟩, by omega⟩⟩
      rw [e1 h]
      exact ⟨⟨by omega, by omega⟩, by omega⟩
    | n1 p =>
      obtain ⟨g0, g1⟩ := hI
      show DD.sat _ _ (duoD a0 a1 a2 a3 a4 a5 a6 a7 a0 a1 a2 a3 a4 a5 a6 a7 a8 a9 a10 a11 a12 a8 a9 a10 a11 a12 (.n1 p))
      unfold duoD
      have e1 : p < a8 → Ar.run .add .i64 p 1 = p + 1 := fun h => arAdd (by omega)
      simp only [DD.sat, cmLss, cmLssF, cmEql, cmEqlF, decide_eq_true_eq]
      refine ⟨fun h => ⟨g0, h, by omega, g0, h, by omega, fun _ => ⟨fun _ => ⟨fun _ => ⟨fun _ => ?_, fun hx => (hx rfl).elim⟩, fun hx => (hx rfl).elim⟩, fun hx => (hx rfl).elim⟩, fun hx => (hx rfl).elim⟩, fun h => trivial⟩
      rw [e1 h]
      exact ⟨⟨by omega, by omega⟩, by omega⟩
  · show DD.sat _ _ (duoD0 a0 a1 a2 a3 a4 a5 a6 a7 a0 a1 a2 a3 a4 a5 a6 a7 a8 a9 a10 a11 a12 a8 a9 a10 a11 a12)
    unfold duoD0
    simp only [DD.sat, cmNeq, cmNeqF, cmEql, cmEqlF]
    refine ⟨fun h0 => ⟨fun _ => ⟨fun _ => ⟨fun _ => ⟨fun _ => ⟨fun _ => ⟨fun hx => (hx rfl).elim, fun _ => ⟨fun hx => (hx rfl).elim, fun _ => ⟨by omega, by omega⟩⟩⟩, fun hx => (hx rfl).elim⟩, fun hx => (hx rfl).elim⟩, fun hx => (hx rfl).elim⟩, fun hx => (hx rfl).elim⟩, fun hx => (by rw [h0] at hx; cases hx)⟩,
      fun h0 => ⟨fun hx => (by rw [h0] at hx; cases hx), fun _ => ⟨fun _ => ⟨fun _ => ⟨fun _ => ⟨fun _ => ⟨fun hx => (hx rfl).elim, fun _ => ⟨fun hx => (hx rfl).elim, fun _ => ⟨by omega, by omega⟩⟩⟩, fun hx => (hx rfl).elim⟩, fun hx => (hx rfl).elim⟩, fun hx => (hx rfl).elim⟩, fun hx => (hx rfl).elim⟩⟩⟩
end
end Go.Proofs.Ythagjhadjpangaa.Cx

/- Package die: bounds of targets that are wide enough. -/
namespace Go.Proofs.Ythagjhadjpangaa.Cx
set_option linter.unusedVariables false
set_option linter.unusedSimpArgs false
set_option maxRecDepth 100000
set_option maxHeartbeats 4000000
open Go Go.RowKit
section
variable {a0 : Bool} {a1 a2 a3 a4 : Int} {a5 : Nat} {a6 a7 : Nat → Int} {a8 : Nat} {a9 a10 a11 a12 : Nat → Int} {a13 a14 : Int}
theorem LoM_floor {t t' : Int} {tl : Nat → Int} (ht : t' ≤ t) : ∀ n, LoM t tl n = max t (LoM t' tl n)
  | 0 => by simp only [LoM]; omega
  | n + 1 => by rw [LoM, LoM, LoM_floor ht n]; omega
theorem HiM_ceil {t t' : Int} {th : Nat → Int} (ht : t ≤ t') : ∀ n, HiM t th n = min t (HiM t' th n)
  | 0 => by simp only [HiM]; omega
  | n + 1 => by rw [HiM, HiM, HiM_ceil ht n]; omega
/-- Bounds of targets that are wide enough do not matter. -/
theorem JobOk.lo (h : JobOk a1 a2 a3 a4 a5 a6 a7 a8 a9 a10 a11 a12) (h0 : 0 ≤ a13) (h1 : a13 < PS a9 a8) (n : Nat) : LoM (-10000000000) (tlP a0 a1 a3 a6 a7 a10 a9 a11 a8 a13) (n + 1) = LoM (-1152921504606846976) (tlP a0 a1 a3 a6 a7 a10 a9 a11 a8 a13) (n + 1) := by
  have t := (h.at' h0 h1).2.2.1
  obtain ⟨_, _, s1, s2⟩ := h.tool
  unfold VOk at s1 s2
  have e : tlP a0 a1 a3 a6 a7 a10 a9 a11 a8 a13 0 = a11 (ordK a9 a8 a13) - a1 - a3 := by
    unfold tlP gL
    simp only [WSum]
    rw [show a13 + ((0 : Nat) : Int) = a13 by omega]
    cases a0 <;> simp only [cond_true, cond_false] <;> omega
  have m := LoM_mono (t := -1152921504606846976) (tl := tlP a0 a1 a3 a6 a7 a10 a9 a11 a8 a13) (i := 1) (n + 1) (by omega)
  have m1 : LoM (-1152921504606846976) (tlP a0 a1 a3 a6 a7 a10 a9 a11 a8 a13) 1 = max (-1152921504606846976) (tlP a0 a1 a3 a6 a7 a10 a9 a11 a8 a13 0) := rfl
  rw [m1, e] at m
  rw [LoM_floor (t := -10000000000) (t' := -1152921504606846976) (by omega)]
  omega
theorem JobOk.hi (h : JobOk a1 a2 a3 a4 a5 a6 a7 a8 a9 a10 a11 a12) (h0 : 0 ≤ a13) (h1 : a13 < PS a9 a8) (n : Nat) : HiM 20000000000 (thP a0 a2 a4 a6 a7 a10 a9 a12 a8 a13) (n + 1) = HiM 1152921504606846976 (thP a0 a2 a4 a6 a7 a10 a9 a12 a8 a13) (n + 1) := by
  have t := (h.at' h0 h1).2.2.1
  obtain ⟨_, _, s1, s2⟩ := h.tool
  unfold VOk at s1 s2
  have e : thP a0 a2 a4 a6 a7 a10 a9 a12 a8 a13 0 = a12 (ordK a9 a8 a13) - a2 - a4 := by
    unfold thP gH
    simp only [WSum]
    rw [show a13 + ((0 : Nat) : Int) = a13 by omega]
    cases a0 <;> simp only [cond_true, cond_false] <;> omega
  have m := HiM_mono (t := 1152921504606846976) (th := thP a0 a2 a4 a6 a7 a10 a9 a12 a8 a13) (i := 1) (n + 1) (by omega)
  have m1 : HiM 1152921504606846976 (thP a0 a2 a4 a6 a7 a10 a9 a12 a8 a13) 1 = min 1152921504606846976 (thP a0 a2 a4 a6 a7 a10 a9 a12 a8 a13 0) := rfl
  rw [m1, e] at m
  rw [HiM_ceil (t := 20000000000) (t' := 1152921504606846976) (by omega)]
  omega
end
end Go.Proofs.Ythagjhadjpangaa.Cx

/- acme/die.Reach as an automaton. Made by tools/cxauto.py. -/
namespace Go.Proofs.Ythagjhadjpangaa.Cx
set_option linter.unusedVariables false
set_option linter.unusedSimpArgs false
set_option maxRecDepth 100000
open Go Go.Proofs Go.RowKit
noncomputable abbrev draCode : Code := funcCode Try.f25
abbrev draN := Empty
abbrev draR := Int × Int
noncomputable def draD0 (a0 : Bool) (a1 a2 a3 a4 : Int) (a5 : Nat) (a6 a7 : Nat → Int) (a8 : Nat) (a9 a10 a11 a12 : Nat → Int) (a13 : Int) : DD (Lf draN draR) :=
 let z0 := fun i => [CV.int IntKind.i64 (IE.x (a6 (0 + i))), CV.int IntKind.i64 (IE.x (a7 (0 + i)))]
 let z1 := fun i => [CV.int IntKind.i64 (IE.x (a9 (0 + i))), CV.int IntKind.i64 (IE.x (a10 (0 + i))), CV.int IntKind.i64 (IE.x (a11 (0 + i))), CV.int IntKind.i64 (IE.x (a12 (0 + i)))]
 let z2 := fun i => a6 (0 + i)
 let z3 := fun i => a7 (0 + i)
 let z4 := fun i => a9 (0 + i)
 let z5 := fun i => a10 (0 + i)
 let z6 := fun i => a11 (0 + i)
 let z7 := fun i => a12 (0 + i)
 let z8 := dshA a0 a1 a2 a3 a4 a5 z2 z3 a8 z4 z5 z6 z7
 let z9 := AF.val z8
 let z10 := dshw7 z9
 let z11 := dshw5 z9
 let z12 := dshw6 z9
 let z13 := drcA (dshw0 z9) (dshw1 z9) (dshw2 z9) (dshw3 z9) (dshw4 z9) z11 z2 z3 z12 z4 z5 z6 z7 z10 (-10000000000) 20000000000 a13 z10
 .must (decide (0 + a5 ≤ a5))
   (.must (ShapeOk [some IntKind.i64, some IntKind.i64] (tabOf a5 z0) z0)
   (.must (decide (0 + a8 ≤ a8))
   (.must (ShapeOk [some IntKind.i64, some IntKind.i64, some IntKind.i64, some IntKind.i64] (tabOf a8 z1) z1)
   (.must (AF.fin z8)
   (.ask (Cm.run .neq (dshw8 z9) 0)
   (.leaf (.done (0, dshw8 z9) []))
   (.ask (Cm.run .lss a13 0)
   (.leaf (.done (0, 3) []))
   (.ask (Cm.run .gtr a13 (Ar.run .sub .i64 z10 1))
   (.leaf (.done (0, 3) []))
   (.must (decide (0 + dshw5 z9 ≤ a5))
   (.must (ShapeOk [some IntKind.i64, some IntKind.i64] (tabOf z11 z0) z0)
   (.must (decide (0 + dshw6 z9 ≤ a8))
   (.must (ShapeOk [some IntKind.i64, some IntKind.i64, some IntKind.i64, some IntKind.i64] (tabOf z12 z1) z1)
   (.must (AF.fin z13)
   (.leaf (.done (Prod.snd (Prod.snd (AF.val z13)), 0) []))))))))))))))

noncomputable def draD (a0 : Bool) (a1 a2 a3 a4 : Int) (a5 : Nat) (a6 a7 : Nat → Int) (a8 : Nat) (a9 a10 a11 a12 : Nat → Int) (a13 : Int) : draN → DD (Lf draN draR) := fun a => nomatch a
noncomputable def draA (a0 : Bool) (a1 a2 a3 a4 : Int) (a5 : Nat) (a6 a7 : Nat → Int) (a8 : Nat) (a9 a10 a11 a12 : Nat → Int) (a13 : Int) : AF draN draR where
  code := draCode
  base := 2
  nt := 36
  m := 400
  un := []
  W := []
  h0 := [(0, ⟨.arg a5 2 (fun i => [.int .i64 (.x (a6 i)), .int .i64 (.x (a7 i))]) (fun _ => ⟨rfl, rfl⟩), 2, true, none⟩), (1, ⟨.arg a8 4 (fun i => [.int .i64 (.x (a9 i)), .int .i64 (.x (a10 i)), .int .i64 (.x (a11 i)), .int .i64 (.x (a12 i))]) (fun _ => ⟨rfl, rfl⟩), 4, true, none⟩)]
  args := [.agg [.bool (.x a0), .int .i64 (.x a1), .int .i64 (.x a2), .int .i64 (.x a3), .int .i64 (.x a4), .sla 0 2 0 a5], .sla 1 4 0 a8, .int .i64 (.x a13)]
  res := (Try.f25).results.toList
  path := fun a => nomatch a
  pd := fun a => nomatch a
  D0 := draD0 a0 a1 a2 a3 a4 a5 a6 a7 a8 a9 a10 a11 a12 a13
  D := draD a0 a1 a2 a3 a4 a5 a6 a7 a8 a9 a10 a11 a12 a13
  rc := (fun v => .tup [.int .i64 (.x v.1), .int .i64 (.x v.2)])
  rh := (fun v => [])
  rn := (fun v => 2)
  rx := (fun v => [])
  rgo := (fun _ => none)
theorem drastart (a0 : Bool) (a1 a2 a3 a4 : Int) (a5 : Nat) (a6 a7 : Nat → Int) (a8 : Nat) (a9 a10 a11 a12 : Nat → Int) (a13 : Int) : AF.edgeOk (draA a0 a1 a2 a3 a4 a5 a6 a7 a8 a9 a10 a11 a12 a13) (ctxOf Try.prog memo0) (draD0 a0 a1 a2 a3 a4 a5 a6 a7 a8 a9 a10 a11 a12 a13) (AF.run0 (draA a0 a1 a2 a3 a4 a5 a6 a7 a8 a9 a10 a11 a12 a13) (ctxOf Try.prog (memoS 67 drcP drcF drcW drcH 2 (memoP 63 dshP dshF dshW dshH 2 memo0)))) := by unfold AF.edgeOk; kernel_rfl
theorem draok (a0 : Bool) (a1 a2 a3 a4 : Int) (a5 : Nat) (a6 a7 : Nat → Int) (a8 : Nat) (a9 a10 a11 a12 : Nat → Int) (a13 : Int) : (draA a0 a1 a2 a3 a4 a5 a6 a7 a8 a9 a10 a11 a12 a13).Ok Try.prog (ctxOf Try.prog (memoS 67 drcP drcF drcW drcH 2 (memoP 63 dshP dshF dshW dshH 2 memo0))) where
  regs := by kernel_rfl
  h0 := by kernel_rfl
  start := drastart a0 a1 a2 a3 a4 a5 a6 a7 a8 a9 a10 a11 a12 a13
  node := fun a _ => nomatch a
  pd := fun a => nomatch a
  le := fun a => nomatch a
  rd := fun v => ⟨⟨fa_nil, fa_nil, fa_nil, rfl⟩, rfl⟩
  wb := rfl
theorem drahR {ρ : Env} (a0 : Bool) (a1 a2 a3 a4 : Int) (a5 : Nat) (a6 a7 : Nat → Int) (a8 : Nat) (a9 a10 a11 a12 : Nat → Int) (a13 : Int) (hM : MemoOk Try.prog (ctxOf Try.prog (memoS 67 drcP drcF drcW drcH 2 (memoP 63 dshP dshF dshW dshH 2 memo0))) ρ) : ∀ X a q n D, FxOk ρ X → X.base = (draA a0 a1 a2 a3 a4 a5 a6 a7 a8 a9 a10 a11 a12 a13).base → X.nt = (draA a0 a1 a2 a3 a4 a5 a6 a7 a8 a9 a10 a11 a12 a13).nt → X.W = (draA a0 a1 a2 a3 a4 a5 a6 a7 a8 a9 a10 a11 a12 a13).W → (draA a0 a1 a2 a3 a4 a5 a6 a7 a8 a9 a10 a11 a12 a13).rgo a = some q → q n = some D → (draA a0 a1 a2 a3 a4 a5 a6 a7 a8 a9 a10 a11 a12 a13).RangeOk Try.prog ρ X a D := AF.noRange rfl
theorem dractr {ρ : Env} (a0 : Bool) (a1 a2 a3 a4 : Int) (a5 : Nat) (a6 a7 : Nat → Int) (a8 : Nat) (a9 a10 a11 a12 : Nat → Int) (a13 : Int) {n : Nat} {v : draR} (hM : MemoOk Try.prog (ctxOf Try.prog (memoS 67 drcP drcF drcW drcH 2 (memoP 63 dshP dshF dshW dshH 2 memo0))) ρ) (hv : (draA a0 a1 a2 a3 a4 a5 a6 a7 a8 a9 a10 a11 a12 a13).run n = some v) :
    Ctr Try.prog ρ 25 (draA a0 a1 a2 a3 a4 a5 a6 a7 a8 a9 a10 a11 a12 a13).args (draA a0 a1 a2 a3 a4 a5 a6 a7 a8 a9 a10 a11 a12 a13).H0 (draA a0 a1 a2 a3 a4 a5 a6 a7 a8 a9 a10 a11 a12 a13).base (draA a0 a1 a2 a3 a4 a5 a6 a7 a8 a9 a10 a11 a12 a13).W ((draA a0 a1 a2 a3 a4 a5 a6 a7 a8 a9 a10 a11 a12 a13).rc v) (putH (draA a0 a1 a2 a3 a4 a5 a6 a7 a8 a9 a10 a11 a12 a13).H0 ((draA a0 a1 a2 a3 a4 a5 a6 a7 a8 a9 a10 a11 a12 a13).rh v ++ (draA a0 a1 a2 a3 a4 a5 a6 a7 a8 a9 a10 a11 a12 a13).rx v)) ((draA a0 a1 a2 a3 a4 a5 a6 a7 a8 a9 a10 a11 a12 a13).rn v) :=
  AF.ctr try_ok hM (draok a0 a1 a2 a3 a4 a5 a6 a7 a8 a9 a10 a11 a12 a13) (fn := Try.f25) Try.func25 rfl rfl (Nat.le_of_ble_eq_true rfl) rfl (drahR a0 a1 a2 a3 a4 a5 a6 a7 a8 a9 a10 a11 a12 a13 hM) hv
theorem dramem {ρ : Env} : MemoOk Try.prog (ctxOf Try.prog (memoS 67 drcP drcF drcW drcH 2 (memoP 63 dshP dshF dshW dshH 2 memo0))) ρ := (memoS_ok (drcknown drcmem) (memoP_ok (dshknown dshmem) memo0_ok))
abbrev draP : List AQ := [.agg [.bool, .int .i64, .int .i64, .int .i64, .int .i64, .rows [some .i64, some .i64]], .rows [some .i64, some .i64, some .i64, some .i64], .int .i64]
noncomputable def draF (v : AW) : AF draN draR := draA (v.b.getD 0 false) (v.i.getD 0 0) (v.i.getD 1 0) (v.i.getD 2 0) (v.i.getD 3 0) (v.t.getD 0 .none).n ((v.t.getD 0 .none).c 0) ((v.t.getD 0 .none).c 1) (v.t.getD 1 .none).n ((v.t.getD 1 .none).c 0) ((v.t.getD 1 .none).c 1) ((v.t.getD 1 .none).c 2) ((v.t.getD 1 .none).c 3) (v.i.getD 4 0)
noncomputable def draW : draR → CV := fun v => .tup [.int .i64 (.x v.1), .int .i64 (.x v.2)]
noncomputable def draH : draR → List (Nat × Blk) := fun v => []
instance : Inhabited draR := ⟨(0, 0)⟩
theorem draknown {ρ : Env} (hM : MemoOk Try.prog (ctxOf Try.prog (memoS 67 drcP drcF drcW drcH 2 (memoP 63 dshP dshF dshW dshH 2 memo0))) ρ) : KnownS Try.prog ρ 25 draP draF draW draH 2 where
  fn := ⟨Try.f25, Try.func25, rfl⟩
  le := Nat.le_of_ble_eq_true rfl
  full := fun r => rfl
  rg := fun r => rfl
  hg := fun r => fa_nil
  ctr := fun v n r h => dractr (v.b.getD 0 false) (v.i.getD 0 0) (v.i.getD 1 0) (v.i.getD 2 0) (v.i.getD 3 0) (v.t.getD 0 .none).n ((v.t.getD 0 .none).c 0) ((v.t.getD 0 .none).c 1) (v.t.getD 1 .none).n ((v.t.getD 1 .none).c 0) ((v.t.getD 1 .none).c 1) ((v.t.getD 1 .none).c 2) ((v.t.getD 1 .none).c 3) (v.i.getD 4 0) hM h
end Go.Proofs.Ythagjhadjpangaa.Cx

/- acme/acmeref07.Reach as an automaton. Made by tools/cxauto.py. -/
namespace Go.Proofs.Ythagjhadjpangaa.Cx
set_option linter.unusedVariables false
set_option linter.unusedSimpArgs false
set_option maxRecDepth 100000
open Go Go.Proofs Go.RowKit
noncomputable abbrev rdrCode : Code := funcCode Try.f28
inductive rdrN where
  | n0 (p0 : Int)
abbrev rdrR := Int
noncomputable def rdrD0 (a0 : Bool) (a1 a2 a3 a4 : Int) (a5 : Nat) (a6 a7 : Nat → Int) (a8 : Nat) (a9 a10 a11 a12 : Nat → Int) (a13 : Int) : DD (Lf rdrN rdrR) :=
 .leaf (.next (.n0 a13) [2])

noncomputable def rdrD (a0 : Bool) (a1 a2 a3 a4 : Int) (a5 : Nat) (a6 a7 : Nat → Int) (a8 : Nat) (a9 a10 a11 a12 : Nat → Int) (a13 : Int) : rdrN → DD (Lf rdrN rdrR)
 | .n0 p0 =>
 let z0 := decide (0 + a8 ≤ a8)
 let z1 := fun i => [CV.int IntKind.i64 (IE.x (a9 (0 + i))), CV.int IntKind.i64 (IE.x (a10 (0 + i))), CV.int IntKind.i64 (IE.x (a11 (0 + i))), CV.int IntKind.i64 (IE.x (a12 (0 + i)))]
 let z2 := ShapeOk [some IntKind.i64, some IntKind.i64, some IntKind.i64, some IntKind.i64] (tabOf a8 z1) z1
 let z3 := fun i => a9 (0 + i)
 let z4 := fun i => a10 (0 + i)
 let z5 := fun i => a11 (0 + i)
 let z6 := fun i => a12 (0 + i)
 let z7 := rdaA a8 z3 z4 z5 z6
 let z8 := fun i => [CV.int IntKind.i64 (IE.x (a6 (0 + i))), CV.int IntKind.i64 (IE.x (a7 (0 + i)))]
 let z9 := Ar.run .add .i64 p0 1
 let z10 := rdtA a0 a1 a2 a3 a4 a5 (fun i => a6 (0 + i)) (fun i => a7 (0 + i)) a8 z3 z4 z5 z6 a13 z9
 let z11 := AF.val z10
 .must z0
   (.must z2
   (.must (AF.fin z7)
   (.ask (Cm.run .lss p0 (AF.val z7))
   (.must (decide (0 + a5 ≤ a5))
   (.must (ShapeOk [some IntKind.i64, some IntKind.i64] (tabOf a5 z8) z8)
   (.must z0
   (.must z2
   (.must (AF.fin z10)
   (.ask (Cm.run .leq (Prod.fst z11) (Prod.snd z11))
   (.leaf (.next (.n0 z9) [2]))
   (.leaf (.done p0 []))))))))
   (.leaf (.done p0 [])))))

noncomputable def rdrA (a0 : Bool) (a1 a2 a3 a4 : Int) (a5 : Nat) (a6 a7 : Nat → Int) (a8 : Nat) (a9 a10 a11 a12 : Nat → Int) (a13 : Int) : AF rdrN rdrR where
  code := rdrCode
  base := 2
  nt := 24
  m := 400
  un := []
  W := []
  h0 := [(0, ⟨.arg a5 2 (fun i => [.int .i64 (.x (a6 i)), .int .i64 (.x (a7 i))]) (fun _ => ⟨rfl, rfl⟩), 2, true, none⟩), (1, ⟨.arg a8 4 (fun i => [.int .i64 (.x (a9 i)), .int .i64 (.x (a10 i)), .int .i64 (.x (a11 i)), .int .i64 (.x (a12 i))]) (fun _ => ⟨rfl, rfl⟩), 4, true, none⟩)]
  args := [.agg [.bool (.x a0), .int .i64 (.x a1), .int .i64 (.x a2), .int .i64 (.x a3), .int .i64 (.x a4), .sla 0 2 0 a5], .sla 1 4 0 a8, .int .i64 (.x a13)]
  res := (Try.f28).results.toList
  path := fun a => match a with
   | .n0 p0 => [1, 1, 0, 0]
  pd := fun a => match a with
   | .n0 p0 => ⟨[(1, .sla 1 4 0 a8), (2, .int .i64 (.x a13)), (3, .ptr (some (2, 0))), (7, .int .i64 (.x p0))], [(2, ⟨.lit [.bool (.x a0), .int .i64 (.x a1), .int .i64 (.x a2), .int .i64 (.x a3), .int .i64 (.x a4), .sla 0 2 0 a5], 0, true, none⟩)], 3, []⟩
  D0 := rdrD0 a0 a1 a2 a3 a4 a5 a6 a7 a8 a9 a10 a11 a12 a13
  D := rdrD a0 a1 a2 a3 a4 a5 a6 a7 a8 a9 a10 a11 a12 a13
  rc := (fun v => .int .i64 (.x v))
  rh := (fun v => [])
  rn := (fun v => 2)
  rx := (fun v => [])
  rgo := (fun _ => none)
theorem rdrstart (a0 : Bool) (a1 a2 a3 a4 : Int) (a5 : Nat) (a6 a7 : Nat → Int) (a8 : Nat) (a9 a10 a11 a12 : Nat → Int) (a13 : Int) : AF.edgeOk (rdrA a0 a1 a2 a3 a4 a5 a6 a7 a8 a9 a10 a11 a12 a13) (ctxOf Try.prog memo0) (rdrD0 a0 a1 a2 a3 a4 a5 a6 a7 a8 a9 a10 a11 a12 a13) (AF.run0 (rdrA a0 a1 a2 a3 a4 a5 a6 a7 a8 a9 a10 a11 a12 a13) (ctxOf Try.prog (memoS 24 rdtP rdtF rdtW rdtH 2 (memoS 22 rdaP rdaF rdaW rdaH 1 memo0)))) := by unfold AF.edgeOk; kernel_rfl
theorem rdrnode0 (a0 : Bool) (a1 a2 a3 a4 : Int) (a5 : Nat) (a6 a7 : Nat → Int) (a8 : Nat) (a9 a10 a11 a12 : Nat → Int) (a13 p0 : Int) : AF.edgeOk (rdrA a0 a1 a2 a3 a4 a5 a6 a7 a8 a9 a10 a11 a12 a13) (ctxOf Try.prog memo0) (rdrD a0 a1 a2 a3 a4 a5 a6 a7 a8 a9 a10 a11 a12 a13 (.n0 p0)) (AF.runN (rdrA a0 a1 a2 a3 a4 a5 a6 a7 a8 a9 a10 a11 a12 a13) (ctxOf Try.prog (memoS 24 rdtP rdtF rdtW rdtH 2 (memoS 22 rdaP rdaF rdaW rdaH 1 memo0))) (.n0 p0)) := by unfold AF.edgeOk; kernel_rfl
theorem rdrok (a0 : Bool) (a1 a2 a3 a4 : Int) (a5 : Nat) (a6 a7 : Nat → Int) (a8 : Nat) (a9 a10 a11 a12 : Nat → Int) (a13 : Int) : (rdrA a0 a1 a2 a3 a4 a5 a6 a7 a8 a9 a10 a11 a12 a13).Ok Try.prog (ctxOf Try.prog (memoS 24 rdtP rdtF rdtW rdtH 2 (memoS 22 rdaP rdaF rdaW rdaH 1 memo0))) where
  regs := by kernel_rfl
  h0 := by kernel_rfl
  start := rdrstart a0 a1 a2 a3 a4 a5 a6 a7 a8 a9 a10 a11 a12 a13
  node := fun a _ => match a with
   | .n0 p0 => rdrnode0 a0 a1 a2 a3 a4 a5 a6 a7 a8 a9 a10 a11 a12 a13 p0
  pd := fun a => match a with
   | .n0 p0 => ⟨(fa_cons rfl (fa_cons rfl (fa_cons rfl (fa_cons rfl fa_nil)))), (fa_cons ⟨.inl (Nat.le_of_ble_eq_true rfl), rfl, rfl⟩ fa_nil), fa_nil, rfl⟩
  le := fun a => match a with
   | .n0 p0 => Nat.le_of_ble_eq_true rfl
  rd := fun v => ⟨⟨fa_nil, fa_nil, fa_nil, rfl⟩, rfl⟩
  wb := rfl
theorem rdrhR {ρ : Env} (a0 : Bool) (a1 a2 a3 a4 : Int) (a5 : Nat) (a6 a7 : Nat → Int) (a8 : Nat) (a9 a10 a11 a12 : Nat → Int) (a13 : Int) (hM : MemoOk Try.prog (ctxOf Try.prog (memoS 24 rdtP rdtF rdtW rdtH 2 (memoS 22 rdaP rdaF rdaW rdaH 1 memo0))) ρ) : ∀ X a q n D, FxOk ρ X → X.base = (rdrA a0 a1 a2 a3 a4 a5 a6 a7 a8 a9 a10 a11 a12 a13).base → X.nt = (rdrA a0 a1 a2 a3 a4 a5 a6 a7 a8 a9 a10 a11 a12 a13).nt → X.W = (rdrA a0 a1 a2 a3 a4 a5 a6 a7 a8 a9 a10 a11 a12 a13).W → (rdrA a0 a1 a2 a3 a4 a5 a6 a7 a8 a9 a10 a11 a12 a13).rgo a = some q → q n = some D → (rdrA a0 a1 a2 a3 a4 a5 a6 a7 a8 a9 a10 a11 a12 a13).RangeOk Try.prog ρ X a D := AF.noRange rfl
theorem rdrctr {ρ : Env} (a0 : Bool) (a1 a2 a3 a4 : Int) (a5 : Nat) (a6 a7 : Nat → Int) (a8 : Nat) (a9 a10 a11 a12 : Nat → Int) (a13 : Int) {n : Nat} {v : rdrR} (hM : MemoOk Try.prog (ctxOf Try.prog (memoS 24 rdtP rdtF rdtW rdtH 2 (memoS 22 rdaP rdaF rdaW rdaH 1 memo0))) ρ) (hv : (rdrA a0 a1 a2 a3 a4 a5 a6 a7 a8 a9 a10 a11 a12 a13).run n = some v) :
    Ctr Try.prog ρ 28 (rdrA a0 a1 a2 a3 a4 a5 a6 a7 a8 a9 a10 a11 a12 a13).args (rdrA a0 a1 a2 a3 a4 a5 a6 a7 a8 a9 a10 a11 a12 a13).H0 (rdrA a0 a1 a2 a3 a4 a5 a6 a7 a8 a9 a10 a11 a12 a13).base (rdrA a0 a1 a2 a3 a4 a5 a6 a7 a8 a9 a10 a11 a12 a13).W ((rdrA a0 a1 a2 a3 a4 a5 a6 a7 a8 a9 a10 a11 a12 a13).rc v) (putH (rdrA a0 a1 a2 a3 a4 a5 a6 a7 a8 a9 a10 a11 a12 a13).H0 ((rdrA a0 a1 a2 a3 a4 a5 a6 a7 a8 a9 a10 a11 a12 a13).rh v ++ (rdrA a0 a1 a2 a3 a4 a5 a6 a7 a8 a9 a10 a11 a12 a13).rx v)) ((rdrA a0 a1 a2 a3 a4 a5 a6 a7 a8 a9 a10 a11 a12 a13).rn v) :=
  AF.ctr try_ok hM (rdrok a0 a1 a2 a3 a4 a5 a6 a7 a8 a9 a10 a11 a12 a13) (fn := Try.f28) Try.func28 rfl rfl (Nat.le_of_ble_eq_true rfl) rfl (rdrhR a0 a1 a2 a3 a4 a5 a6 a7 a8 a9 a10 a11 a12 a13 hM) hv
theorem rdrmem {ρ : Env} : MemoOk Try.prog (ctxOf Try.prog (memoS 24 rdtP rdtF rdtW rdtH 2 (memoS 22 rdaP rdaF rdaW rdaH 1 memo0))) ρ := (memoS_ok (rdtknown rdtmem) (memoS_ok (rdaknown rdamem) memo0_ok))
abbrev rdrP : List AQ := [.agg [.bool, .int .i64, .int .i64, .int .i64, .int .i64, .rows [some .i64, some .i64]], .rows [some .i64, some .i64, some .i64, some .i64], .int .i64]
noncomputable def rdrF (v : AW) : AF rdrN rdrR := rdrA (v.b.getD 0 false) (v.i.getD 0 0) (v.i.getD 1 0) (v.i.getD 2 0) (v.i.getD 3 0) (v.t.getD 0 .none).n ((v.t.getD 0 .none).c 0) ((v.t.getD 0 .none).c 1) (v.t.getD 1 .none).n ((v.t.getD 1 .none).c 0) ((v.t.getD 1 .none).c 1) ((v.t.getD 1 .none).c 2) ((v.t.getD 1 .none).c 3) (v.i.getD 4 0)
noncomputable def rdrW : rdrR → CV := fun v => .int .i64 (.x v)
noncomputable def rdrH : rdrR → List (Nat × Blk) := fun v => []
instance : Inhabited rdrR := ⟨0⟩
theorem rdrknown {ρ : Env} (hM : MemoOk Try.prog (ctxOf Try.prog (memoS 24 rdtP rdtF rdtW rdtH 2 (memoS 22 rdaP rdaF rdaW rdaH 1 memo0))) ρ) : KnownS Try.prog ρ 28 rdrP rdrF rdrW rdrH 2 where
  fn := ⟨Try.f28, Try.func28, rfl⟩
  le := Nat.le_of_ble_eq_true rfl
  full := fun r => rfl
  rg := fun r => rfl
  hg := fun r => fa_nil
  ctr := fun v n r h => rdrctr (v.b.getD 0 false) (v.i.getD 0 0) (v.i.getD 1 0) (v.i.getD 2 0) (v.i.getD 3 0) (v.t.getD 0 .none).n ((v.t.getD 0 .none).c 0) ((v.t.getD 0 .none).c 1) (v.t.getD 1 .none).n ((v.t.getD 1 .none).c 0) ((v.t.getD 1 .none).c 1) ((v.t.getD 1 .none).c 2) ((v.t.getD 1 .none).c 3) (v.i.getD 4 0) hM h
end Go.Proofs.Ythagjhadjpangaa.Cx

/- acme/die.Plan as an automaton. Made by tools/cxauto.py. -/
namespace Go.Proofs.Ythagjhadjpangaa.Cx
set_option linter.unusedVariables false
set_option linter.unusedSimpArgs false
set_option maxRecDepth 100000
open Go Go.Proofs Go.RowKit
noncomputable abbrev dplCode : Code := funcCode Try.f26
noncomputable abbrev dpls0Code : Code := funcCode Try.f92
inductive dpls0N where
  | n0
  | n1 (q0 : Int) (q1 : Nat) (q2 q3 : Nat → Int)
inductive dpls0R where
  | r0
  | r1 (q0 : Nat) (q1 : Int) (q2 q3 : Nat → Int)
noncomputable def dpls0D0 (a0 : Bool) (a1 a2 a3 a4 : Int) (a5 : Nat) (a6 a7 : Nat → Int) (a8 : Nat) (a9 a10 a11 a12 : Nat → Int) (p0 : Bool) (p1 p2 p3 p4 : Int) (p5 p6 : Nat) (p7 : Int) : DD (Lf dpls0N dpls0R) :=
 .leaf (.next (.n0) [])

noncomputable def dpls0D (a0 : Bool) (a1 a2 a3 a4 : Int) (a5 : Nat) (a6 a7 : Nat → Int) (a8 : Nat) (a9 a10 a11 a12 : Nat → Int) (p0 : Bool) (p1 p2 p3 p4 : Int) (p5 p6 : Nat) (p7 : Int) : dpls0N → DD (Lf dpls0N dpls0R)
 | .n0 =>
 let z0 := fun i => [CV.int IntKind.i64 (IE.x (a6 (0 + i))), CV.int IntKind.i64 (IE.x (a7 (0 + i)))]
 let z1 := fun i => [CV.int IntKind.i64 (IE.x (a9 (0 + i))), CV.int IntKind.i64 (IE.x (a10 (0 + i))), CV.int IntKind.i64 (IE.x (a11 (0 + i))), CV.int IntKind.i64 (IE.x (a12 (0 + i)))]
 let z2 := drcA p0 p1 p2 p3 p4 p5 (fun i => a6 (0 + i)) (fun i => a7 (0 + i)) p6 (fun i => a9 (0 + i)) (fun i => a10 (0 + i)) (fun i => a11 (0 + i)) (fun i => a12 (0 + i)) p7 (-10000000000) 20000000000 0 p7
 let z3 := AF.val z2
 let z4 := Prod.snd (Prod.snd z3)
 .ask (Cm.run .lss 0 p7)
   (.must (decide (0 + p5 ≤ a5))
   (.must (ShapeOk [some IntKind.i64, some IntKind.i64] (tabOf p5 z0) z0)
   (.must (decide (0 + p6 ≤ a8))
   (.must (ShapeOk [some IntKind.i64, some IntKind.i64, some IntKind.i64, some IntKind.i64] (tabOf p6 z1) z1)
   (.must (AF.fin z2)
   (.ask (Cm.run .eql z4 0)
   (.leaf (.done (.r0) []))
   (.leaf (.next (.n1 z4 1 (fun i => 0) (fun i => Prod.fst z3)) [11]))))))))
   (.leaf (.done (.r0) []))
 | .n1 q0 q1 q2 q3 =>
 let z0 := fun i => [CV.int IntKind.i64 (IE.x (a6 (0 + i))), CV.int IntKind.i64 (IE.x (a7 (0 + i)))]
 let z1 := fun i => [CV.int IntKind.i64 (IE.x (a9 (0 + i))), CV.int IntKind.i64 (IE.x (a10 (0 + i))), CV.int IntKind.i64 (IE.x (a11 (0 + i))), CV.int IntKind.i64 (IE.x (a12 (0 + i)))]
 let z2 := drcA p0 p1 p2 p3 p4 p5 (fun i => a6 (0 + i)) (fun i => a7 (0 + i)) p6 (fun i => a9 (0 + i)) (fun i => a10 (0 + i)) (fun i => a11 (0 + i)) (fun i => a12 (0 + i)) p7 (-10000000000) 20000000000 q0 p7
 let z3 := AF.val z2
 let z4 := Prod.snd (Prod.snd z3)
 .ask (Cm.run .lss q0 p7)
   (.must (decide (0 + p5 ≤ a5))
   (.must (ShapeOk [some IntKind.i64, some IntKind.i64] (tabOf p5 z0) z0)
   (.must (decide (0 + p6 ≤ a8))
   (.must (ShapeOk [some IntKind.i64, some IntKind.i64, some IntKind.i64, some IntKind.i64] (tabOf p6 z1) z1)
   (.must (AF.fin z2)
   (.ask (Cm.run .eql z4 q0)
   (.leaf (.done (.r1 q1 q0 (fun i => q2 i) (fun i => q3 i)) [7]))
   (.must (decide (0 + q1 ≤ q1))
   (.must (decide (q1 + 1 ≤ 10000))
   (.leaf (.next (.n1 z4 (q1 + 1) (fun i => bif Nat.blt i q1 then q2 (0 + i) else q0) (fun i => bif Nat.blt i q1 then q3 (0 + i) else Prod.fst z3)) [12]))))))))))
   (.leaf (.done (.r1 q1 q0 (fun i => q2 i) (fun i => q3 i)) [7]))

noncomputable def dpls0A (a0 : Bool) (a1 a2 a3 a4 : Int) (a5 : Nat) (a6 a7 : Nat → Int) (a8 : Nat) (a9 a10 a11 a12 : Nat → Int) (p0 : Bool) (p1 p2 p3 p4 : Int) (p5 p6 : Nat) (p7 : Int) : AF dpls0N dpls0R where
  code := dpls0Code
  base := 7
  nt := 33
  m := 400
  un := []
  W := [3, 4, 6]
  h0 := ((6, recB (mkT [(6, .ptr (some (2, 0))), (8, .ptr (some (3, 0))), (9, .ptr (some (4, 0))), (22, .fn (.func 92) [] [.ptr (some (5, 0))])]) 35 (rgP (codeAt dplCode [1, 1, 1, 1, 1, 0, 1, 0])) (rgA (codeAt dplCode [1, 1, 1, 1, 1, 0, 1, 0])) (rgB (codeAt dplCode [1, 1, 1, 1, 1, 0, 1, 0]))) :: (([(2, ⟨.lit [.bool (.x p0), .int .i64 (.x p1), .int .i64 (.x p2), .int .i64 (.x p3), .int .i64 (.x p4), .sla 0 2 0 p5, .sla 1 4 0 p6, .int .i64 (.x p7)], 0, true, none⟩), (3, ⟨.lit [.slc none 0 0], 0, true, none⟩), (4, ⟨.lit [.int .i64 (.x 0)], 0, true, none⟩), (5, ⟨.lit [.bool (.x p0), .int .i64 (.x p1), .int .i64 (.x p2), .int .i64 (.x p3), .int .i64 (.x p4), .sla 0 2 0 p5, .sla 1 4 0 p6, .int .i64 (.x p7)], 0, true, none⟩)] ++ []) ++ [(0, ⟨.arg a5 2 (fun i => [.int .i64 (.x (a6 i)), .int .i64 (.x (a7 i))]) (fun _ => ⟨rfl, rfl⟩), 2, true, none⟩), (1, ⟨.arg a8 4 (fun i => [.int .i64 (.x (a9 i)), .int .i64 (.x (a10 i)), .int .i64 (.x (a11 i)), .int .i64 (.x (a12 i))]) (fun _ => ⟨rfl, rfl⟩), 4, true, none⟩)]))
  args := [.yld 6, .ptr (some (5, 0))]
  res := (Try.f92).results.toList
  path := fun a => match a with
   | .n0 => [1, 0]
   | .n1 q0 q1 q2 q3 => [1, 0]
  pd := fun a => match a with
   | .n0 => ⟨[(0, .yld 6), (1, .ptr (some (5, 0))), (3, .int .i64 (.x 0))], [(3, ⟨.lit [.slc none 0 0], 0, true, none⟩), (4, ⟨.lit [.int .i64 (.x 0)], 0, true, none⟩)], 7, [(6, recS (mkT [(6, .ptr (some (2, 0))), (8, .ptr (some (3, 0))), (9, .ptr (some (4, 0))), (22, .fn (.func 92) [] [.ptr (some (5, 0))])]) 35 (rgP (codeAt dplCode [1, 1, 1, 1, 1, 0, 1, 0])) (rgA (codeAt dplCode [1, 1, 1, 1, 1, 0, 1, 0])) (rgB (codeAt dplCode [1, 1, 1, 1, 1, 0, 1, 0])) (.ready) (.none))]⟩
   | .n1 q0 q1 q2 q3 => ⟨[(0, .yld 6), (1, .ptr (some (5, 0))), (3, .int .i64 (.x q0))], [(3, ⟨.lit [.slx 7 2 0 q1 q1], 0, true, none⟩), (4, ⟨.lit [.int .i64 (.x q0)], 0, true, none⟩), (7, ⟨.rows q1 2 (fun i => [.int .i64 (.x (q2 i)), .int .i64 (.x (q3 i))]) (fun _ => ⟨rfl, rfl⟩), 2, true, none⟩)], 8, [(6, recS (mkT [(6, .ptr (some (2, 0))), (8, .ptr (some (3, 0))), (9, .ptr (some (4, 0))), (22, .fn (.func 92) [] [.ptr (some (5, 0))])]) 35 (rgP (codeAt dplCode [1, 1, 1, 1, 1, 0, 1, 0])) (rgA (codeAt dplCode [1, 1, 1, 1, 1, 0, 1, 0])) (rgB (codeAt dplCode [1, 1, 1, 1, 1, 0, 1, 0])) (.ready) (.none))]⟩
  D0 := dpls0D0 a0 a1 a2 a3 a4 a5 a6 a7 a8 a9 a10 a11 a12 p0 p1 p2 p3 p4 p5 p6 p7
  D := dpls0D a0 a1 a2 a3 a4 a5 a6 a7 a8 a9 a10 a11 a12 p0 p1 p2 p3 p4 p5 p6 p7
  rc := (fun v => match v with
 | .r0 => .tup []
 | .r1 q0 q1 q2 q3 => .tup [])
  rh := (fun v => match v with
 | .r0 => [(3, ⟨.lit [.slc none 0 0], 0, true, none⟩), (4, ⟨.lit [.int .i64 (.x 0)], 0, true, none⟩)]
 | .r1 q0 q1 q2 q3 => [(3, ⟨.lit [.slx 7 2 0 q0 q0], 0, true, none⟩), (4, ⟨.lit [.int .i64 (.x q1)], 0, true, none⟩), (7, ⟨.rows q0 2 (fun i => [.int .i64 (.x (q2 i)), .int .i64 (.x (q3 i))]) (fun _ => ⟨rfl, rfl⟩), 2, true, none⟩)])
  rn := (fun v => match v with
 | .r0 => 7
 | .r1 q0 q1 q2 q3 => 8)
  rx := (fun v => match v with
 | .r0 => [(6, recS (mkT [(6, .ptr (some (2, 0))), (8, .ptr (some (3, 0))), (9, .ptr (some (4, 0))), (22, .fn (.func 92) [] [.ptr (some (5, 0))])]) 35 (rgP (codeAt dplCode [1, 1, 1, 1, 1, 0, 1, 0])) (rgA (codeAt dplCode [1, 1, 1, 1, 1, 0, 1, 0])) (rgB (codeAt dplCode [1, 1, 1, 1, 1, 0, 1, 0])) (.ready) (.none))]
 | .r1 q0 q1 q2 q3 => [(6, recS (mkT [(6, .ptr (some (2, 0))), (8, .ptr (some (3, 0))), (9, .ptr (some (4, 0))), (22, .fn (.func 92) [] [.ptr (some (5, 0))])]) 35 (rgP (codeAt dplCode [1, 1, 1, 1, 1, 0, 1, 0])) (rgA (codeAt dplCode [1, 1, 1, 1, 1, 0, 1, 0])) (rgB (codeAt dplCode [1, 1, 1, 1, 1, 0, 1, 0])) (.ready) (.none))])
  rgo := (fun _ => none)
theorem dpls0start (a0 : Bool) (a1 a2 a3 a4 : Int) (a5 : Nat) (a6 a7 : Nat → Int) (a8 : Nat) (a9 a10 a11 a12 : Nat → Int) (p0 : Bool) (p1 p2 p3 p4 : Int) (p5 p6 : Nat) (p7 : Int) : AF.edgeOk (dpls0A a0 a1 a2 a3 a4 a5 a6 a7 a8 a9 a10 a11 a12 p0 p1 p2 p3 p4 p5 p6 p7) (ctxOf Try.prog memo0) (dpls0D0 a0 a1 a2 a3 a4 a5 a6 a7 a8 a9 a10 a11 a12 p0 p1 p2 p3 p4 p5 p6 p7) (AF.run0 (dpls0A a0 a1 a2 a3 a4 a5 a6 a7 a8 a9 a10 a11 a12 p0 p1 p2 p3 p4 p5 p6 p7) (ctxOf Try.prog (memoS 67 drcP drcF drcW drcH 2 (memoP 63 dshP dshF dshW dshH 2 memo0)))) := by unfold AF.edgeOk; kernel_rfl
theorem dpls0node0 (a0 : Bool) (a1 a2 a3 a4 : Int) (a5 : Nat) (a6 a7 : Nat → Int) (a8 : Nat) (a9 a10 a11 a12 : Nat → Int) (p0 : Bool) (p1 p2 p3 p4 : Int) (p5 p6 : Nat) (p7 : Int) : AF.edgeOk (dpls0A a0 a1 a2 a3 a4 a5 a6 a7 a8 a9 a10 a11 a12 p0 p1 p2 p3 p4 p5 p6 p7) (ctxOf Try.prog memo0) (dpls0D a0 a1 a2 a3 a4 a5 a6 a7 a8 a9 a10 a11 a12 p0 p1 p2 p3 p4 p5 p6 p7 (.n0)) (AF.runN (dpls0A a0 a1 a2 a3 a4 a5 a6 a7 a8 a9 a10 a11 a12 p0 p1 p2 p3 p4 p5 p6 p7) (ctxOf Try.prog (memoS 67 drcP drcF drcW drcH 2 (memoP 63 dshP dshF dshW dshH 2 memo0))) (.n0)) := by unfold AF.edgeOk; kernel_rfl
theorem dpls0node1 (a0 : Bool) (a1 a2 a3 a4 : Int) (a5 : Nat) (a6 a7 : Nat → Int) (a8 : Nat) (a9 a10 a11 a12 : Nat → Int) (p0 : Bool) (p1 p2 p3 p4 : Int) (p5 p6 : Nat) (p7 q0 : Int) (q1 : Nat) (q2 q3 : Nat → Int) : AF.edgeOk (dpls0A a0 a1 a2 a3 a4 a5 a6 a7 a8 a9 a10 a11 a12 p0 p1 p2 p3 p4 p5 p6 p7) (ctxOf Try.prog memo0) (dpls0D a0 a1 a2 a3 a4 a5 a6 a7 a8 a9 a10 a11 a12 p0 p1 p2 p3 p4 p5 p6 p7 (.n1 q0 q1 q2 q3)) (AF.runN (dpls0A a0 a1 a2 a3 a4 a5 a6 a7 a8 a9 a10 a11 a12 p0 p1 p2 p3 p4 p5 p6 p7) (ctxOf Try.prog (memoS 67 drcP drcF drcW drcH 2 (memoP 63 dshP dshF dshW dshH 2 memo0))) (.n1 q0 q1 q2 q3)) := by unfold AF.edgeOk; kernel_rfl
theorem dpls0ok (a0 : Bool) (a1 a2 a3 a4 : Int) (a5 : Nat) (a6 a7 : Nat → Int) (a8 : Nat) (a9 a10 a11 a12 : Nat → Int) (p0 : Bool) (p1 p2 p3 p4 : Int) (p5 p6 : Nat) (p7 : Int) : (dpls0A a0 a1 a2 a3 a4 a5 a6 a7 a8 a9 a10 a11 a12 p0 p1 p2 p3 p4 p5 p6 p7).Ok Try.prog (ctxOf Try.prog (memoS 67 drcP drcF drcW drcH 2 (memoP 63 dshP dshF dshW dshH 2 memo0))) where
  regs := by kernel_rfl
  h0 := by kernel_rfl
  start := dpls0start a0 a1 a2 a3 a4 a5 a6 a7 a8 a9 a10 a11 a12 p0 p1 p2 p3 p4 p5 p6 p7
  node := fun a _ => match a with
   | .n0 => dpls0node0 a0 a1 a2 a3 a4 a5 a6 a7 a8 a9 a10 a11 a12 p0 p1 p2 p3 p4 p5 p6 p7
   | .n1 q0 q1 q2 q3 => dpls0node1 a0 a1 a2 a3 a4 a5 a6 a7 a8 a9 a10 a11 a12 p0 p1 p2 p3 p4 p5 p6 p7 q0 q1 q2 q3
  pd := fun a => match a with
   | .n0 => ⟨(fa_cons rfl (fa_cons rfl (fa_cons rfl fa_nil))), (fa_cons ⟨.inr (memW rfl), rfl, rfl⟩ (fa_cons ⟨.inr (memW rfl), rfl, rfl⟩ fa_nil)), (fa_cons ⟨memW rfl, RecOk.of rfl⟩ fa_nil), rfl⟩
   | .n1 q0 q1 q2 q3 => ⟨(fa_cons rfl (fa_cons rfl (fa_cons rfl fa_nil))), (fa_cons ⟨.inr (memW rfl), rfl, rfl⟩ (fa_cons ⟨.inr (memW rfl), rfl, rfl⟩ (fa_cons ⟨.inl (Nat.le_of_ble_eq_true rfl), (fun _ => rfl), rfl⟩ fa_nil))), (fa_cons ⟨memW rfl, RecOk.of rfl⟩ fa_nil), rfl⟩
  le := fun a => match a with
   | .n0 => Nat.le_of_ble_eq_true rfl
   | .n1 q0 q1 q2 q3 => Nat.le_of_ble_eq_true rfl
  rd := fun v => match v with
   | .r0 => ⟨⟨fa_nil, (fa_cons ⟨.inr (memW rfl), rfl, rfl⟩ (fa_cons ⟨.inr (memW rfl), rfl, rfl⟩ fa_nil)), (fa_cons ⟨memW rfl, RecOk.of rfl⟩ fa_nil), rfl⟩, rfl⟩
   | .r1 q0 q1 q2 q3 => ⟨⟨fa_nil, (fa_cons ⟨.inr (memW rfl), rfl, rfl⟩ (fa_cons ⟨.inr (memW rfl), rfl, rfl⟩ (fa_cons ⟨.inl (Nat.le_of_ble_eq_true rfl), (fun _ => rfl), rfl⟩ fa_nil))), (fa_cons ⟨memW rfl, RecOk.of rfl⟩ fa_nil), rfl⟩, rfl⟩
  wb := rfl
theorem dpls0hR {ρ : Env} (a0 : Bool) (a1 a2 a3 a4 : Int) (a5 : Nat) (a6 a7 : Nat → Int) (a8 : Nat) (a9 a10 a11 a12 : Nat → Int) (p0 : Bool) (p1 p2 p3 p4 : Int) (p5 p6 : Nat) (p7 : Int) (hM : MemoOk Try.prog (ctxOf Try.prog (memoS 67 drcP drcF drcW drcH 2 (memoP 63 dshP dshF dshW dshH 2 memo0))) ρ) : ∀ X a q n D, FxOk ρ X → X.base = (dpls0A a0 a1 a2 a3 a4 a5 a6 a7 a8 a9 a10 a11 a12 p0 p1 p2 p3 p4 p5 p6 p7).base → X.nt = (dpls0A a0 a1 a2 a3 a4 a5 a6 a7 a8 a9 a10 a11 a12 p0 p1 p2 p3 p4 p5 p6 p7).nt → X.W = (dpls0A a0 a1 a2 a3 a4 a5 a6 a7 a8 a9 a10 a11 a12 p0 p1 p2 p3 p4 p5 p6 p7).W → (dpls0A a0 a1 a2 a3 a4 a5 a6 a7 a8 a9 a10 a11 a12 p0 p1 p2 p3 p4 p5 p6 p7).rgo a = some q → q n = some D → (dpls0A a0 a1 a2 a3 a4 a5 a6 a7 a8 a9 a10 a11 a12 p0 p1 p2 p3 p4 p5 p6 p7).RangeOk Try.prog ρ X a D := AF.noRange rfl
inductive dplN where
  | n0 (p0 : Bool) (p1 p2 p3 p4 : Int) (p5 p6 : Nat) (p7 : Int)
inductive dplR where
  | r0 (p0 : Int)
  | r1 (p0 : Nat) (p1 p2 : Nat → Int)
noncomputable def dplD0 (a0 : Bool) (a1 a2 a3 a4 : Int) (a5 : Nat) (a6 a7 : Nat → Int) (a8 : Nat) (a9 a10 a11 a12 : Nat → Int) : DD (Lf dplN dplR) :=
 let z0 := fun i => [CV.int IntKind.i64 (IE.x (a6 (0 + i))), CV.int IntKind.i64 (IE.x (a7 (0 + i)))]
 let z1 := fun i => [CV.int IntKind.i64 (IE.x (a9 (0 + i))), CV.int IntKind.i64 (IE.x (a10 (0 + i))), CV.int IntKind.i64 (IE.x (a11 (0 + i))), CV.int IntKind.i64 (IE.x (a12 (0 + i)))]
 let z2 := dshA a0 a1 a2 a3 a4 a5 (fun i => a6 (0 + i)) (fun i => a7 (0 + i)) a8 (fun i => a9 (0 + i)) (fun i => a10 (0 + i)) (fun i => a11 (0 + i)) (fun i => a12 (0 + i))
 let z3 := AF.val z2
 let z4 := dshw8 z3
 .must (decide (0 + a5 ≤ a5))
   (.must (ShapeOk [some IntKind.i64, some IntKind.i64] (tabOf a5 z0) z0)
   (.must (decide (0 + a8 ≤ a8))
   (.must (ShapeOk [some IntKind.i64, some IntKind.i64, some IntKind.i64, some IntKind.i64] (tabOf a8 z1) z1)
   (.must (AF.fin z2)
   (.ask (Cm.run .neq z4 0)
   (.leaf (.done (.r0 z4) []))
   (.leaf (.next (.n0 (dshw0 z3) (dshw1 z3) (dshw2 z3) (dshw3 z3) (dshw4 z3) (dshw5 z3) (dshw6 z3) (dshw7 z3)) [3, 4, 5, 6])))))))

noncomputable def dplD (a0 : Bool) (a1 a2 a3 a4 : Int) (a5 : Nat) (a6 a7 : Nat → Int) (a8 : Nat) (a9 a10 a11 a12 : Nat → Int) : dplN → DD (Lf dplN dplR)
 | .n0 p0 p1 p2 p3 p4 p5 p6 p7 =>
 .dead

noncomputable def dplRg0 (a0 : Bool) (a1 a2 a3 a4 : Int) (a5 : Nat) (a6 a7 : Nat → Int) (a8 : Nat) (a9 a10 a11 a12 : Nat → Int) (p0 : Bool) (p1 p2 p3 p4 : Int) (p5 p6 : Nat) (p7 : Int) : dpls0R → DD (Lf dplN dplR)
 | .r0 =>
 .ask (Cm.run .lss 0 p7)
   (.leaf (.done (.r0 7) []))
   (.leaf (.done (.r0 0) []))
 | .r1 q0 q1 q2 q3 =>
 .ask (Cm.run .lss q1 p7)
   (.leaf (.done (.r0 7) []))
   (.leaf (.done (.r1 q0 (fun i => q2 i) (fun i => q3 i)) [7]))

noncomputable def dplA (a0 : Bool) (a1 a2 a3 a4 : Int) (a5 : Nat) (a6 a7 : Nat → Int) (a8 : Nat) (a9 a10 a11 a12 : Nat → Int) : AF dplN dplR where
  code := dplCode
  base := 2
  nt := 35
  m := 400
  un := [1000007]
  W := []
  h0 := [(0, ⟨.arg a5 2 (fun i => [.int .i64 (.x (a6 i)), .int .i64 (.x (a7 i))]) (fun _ => ⟨rfl, rfl⟩), 2, true, none⟩), (1, ⟨.arg a8 4 (fun i => [.int .i64 (.x (a9 i)), .int .i64 (.x (a10 i)), .int .i64 (.x (a11 i)), .int .i64 (.x (a12 i))]) (fun _ => ⟨rfl, rfl⟩), 4, true, none⟩)]
  args := [.agg [.bool (.x a0), .int .i64 (.x a1), .int .i64 (.x a2), .int .i64 (.x a3), .int .i64 (.x a4), .sla 0 2 0 a5], .sla 1 4 0 a8]
  res := (Try.f26).results.toList
  path := fun a => match a with
   | .n0 p0 p1 p2 p3 p4 p5 p6 p7 => [1, 1, 1, 1, 1, 0, 1, 0]
  pd := fun a => match a with
   | .n0 p0 p1 p2 p3 p4 p5 p6 p7 => ⟨[(6, .ptr (some (2, 0))), (8, .ptr (some (3, 0))), (9, .ptr (some (4, 0))), (22, .fn (.func 92) [] [.ptr (some (5, 0))])], [(2, ⟨.lit [.bool (.x p0), .int .i64 (.x p1), .int .i64 (.x p2), .int .i64 (.x p3), .int .i64 (.x p4), .sla 0 2 0 p5, .sla 1 4 0 p6, .int .i64 (.x p7)], 0, true, none⟩), (3, ⟨.lit [.slc none 0 0], 0, true, none⟩), (4, ⟨.lit [.int .i64 (.x 0)], 0, true, none⟩), (5, ⟨.lit [.bool (.x p0), .int .i64 (.x p1), .int .i64 (.x p2), .int .i64 (.x p3), .int .i64 (.x p4), .sla 0 2 0 p5, .sla 1 4 0 p6, .int .i64 (.x p7)], 0, true, none⟩)], 6, []⟩
  D0 := dplD0 a0 a1 a2 a3 a4 a5 a6 a7 a8 a9 a10 a11 a12
  D := dplD a0 a1 a2 a3 a4 a5 a6 a7 a8 a9 a10 a11 a12
  rc := (fun v => match v with
 | .r0 p0 => .tup [.slc none 0 0, .int .i64 (.x p0)]
 | .r1 p0 p1 p2 => .tup [.slx 2 2 0 p0 p0, .int .i64 (.x 0)])
  rh := (fun v => match v with
 | .r0 p0 => []
 | .r1 p0 p1 p2 => [(2, ⟨.rows p0 2 (fun i => [.int .i64 (.x (p1 i)), .int .i64 (.x (p2 i))]) (fun _ => ⟨rfl, rfl⟩), 2, true, none⟩)])
  rn := (fun v => match v with
 | .r0 p0 => 2
 | .r1 p0 p1 p2 => 3)
  rx := (fun v => match v with
 | .r0 p0 => []
 | .r1 p0 p1 p2 => [])
  rgo := (fun a => match a with
   | .n0 p0 p1 p2 p3 p4 p5 p6 p7 => some (fun n => (AF.run (dpls0A a0 a1 a2 a3 a4 a5 a6 a7 a8 a9 a10 a11 a12 p0 p1 p2 p3 p4 p5 p6 p7) n).map (dplRg0 a0 a1 a2 a3 a4 a5 a6 a7 a8 a9 a10 a11 a12 p0 p1 p2 p3 p4 p5 p6 p7)))
theorem dplstart (a0 : Bool) (a1 a2 a3 a4 : Int) (a5 : Nat) (a6 a7 : Nat → Int) (a8 : Nat) (a9 a10 a11 a12 : Nat → Int) : AF.edgeOk (dplA a0 a1 a2 a3 a4 a5 a6 a7 a8 a9 a10 a11 a12) (ctxOf Try.prog memo0) (dplD0 a0 a1 a2 a3 a4 a5 a6 a7 a8 a9 a10 a11 a12) (AF.run0 (dplA a0 a1 a2 a3 a4 a5 a6 a7 a8 a9 a10 a11 a12) (ctxOf Try.prog (memoS 67 drcP drcF drcW drcH 2 (memoP 63 dshP dshF dshW dshH 2 memo0)))) := by unfold AF.edgeOk; kernel_rfl
theorem dplok (a0 : Bool) (a1 a2 a3 a4 : Int) (a5 : Nat) (a6 a7 : Nat → Int) (a8 : Nat) (a9 a10 a11 a12 : Nat → Int) : (dplA a0 a1 a2 a3 a4 a5 a6 a7 a8 a9 a10 a11 a12).Ok Try.prog (ctxOf Try.prog (memoS 67 drcP drcF drcW drcH 2 (memoP 63 dshP dshF dshW dshH 2 memo0))) where
  regs := by kernel_rfl
  h0 := by kernel_rfl
  start := dplstart a0 a1 a2 a3 a4 a5 a6 a7 a8 a9 a10 a11 a12
  node := fun a h => match a, h with
   | .n0 p0 p1 p2 p3 p4 p5 p6 p7, h => someNe h
  pd := fun a => match a with
   | .n0 p0 p1 p2 p3 p4 p5 p6 p7 => ⟨(fa_cons rfl (fa_cons rfl (fa_cons rfl (fa_cons rfl fa_nil)))), (fa_cons ⟨.inl (Nat.le_of_ble_eq_true rfl), rfl, rfl⟩ (fa_cons ⟨.inl (Nat.le_of_ble_eq_true rfl), rfl, rfl⟩ (fa_cons ⟨.inl (Nat.le_of_ble_eq_true rfl), rfl, rfl⟩ (fa_cons ⟨.inl (Nat.le_of_ble_eq_true rfl), rfl, rfl⟩ fa_nil)))), fa_nil, rfl⟩
  le := fun a => match a with
   | .n0 p0 p1 p2 p3 p4 p5 p6 p7 => Nat.le_of_ble_eq_true rfl
  rd := fun v => match v with
   | .r0 p0 => ⟨⟨fa_nil, fa_nil, fa_nil, rfl⟩, rfl⟩
   | .r1 p0 p1 p2 => ⟨⟨fa_nil, (fa_cons ⟨.inl (Nat.le_of_ble_eq_true rfl), (fun _ => rfl), rfl⟩ fa_nil), fa_nil, rfl⟩, rfl⟩
  wb := rfl
theorem dplrg0_0 (a0 : Bool) (a1 a2 a3 a4 : Int) (a5 : Nat) (a6 a7 : Nat → Int) (a8 : Nat) (a9 a10 a11 a12 : Nat → Int) (p0 : Bool) (p1 p2 p3 p4 : Int) (p5 p6 : Nat) (p7 : Int) : AF.edgeOk (dplA a0 a1 a2 a3 a4 a5 a6 a7 a8 a9 a10 a11 a12) (ctxOf Try.prog memo0) (dplRg0 a0 a1 a2 a3 a4 a5 a6 a7 a8 a9 a10 a11 a12 p0 p1 p2 p3 p4 p5 p6 p7 (.r0)) (AF.runR (dplA a0 a1 a2 a3 a4 a5 a6 a7 a8 a9 a10 a11 a12) (ctxOf Try.prog (memoS 67 drcP drcF drcW drcH 2 (memoP 63 dshP dshF dshW dshH 2 memo0))) (.n0 p0 p1 p2 p3 p4 p5 p6 p7) (putH (dpls0A a0 a1 a2 a3 a4 a5 a6 a7 a8 a9 a10 a11 a12 p0 p1 p2 p3 p4 p5 p6 p7).H0 ((dpls0A a0 a1 a2 a3 a4 a5 a6 a7 a8 a9 a10 a11 a12 p0 p1 p2 p3 p4 p5 p6 p7).rh (.r0) ++ (dpls0A a0 a1 a2 a3 a4 a5 a6 a7 a8 a9 a10 a11 a12 p0 p1 p2 p3 p4 p5 p6 p7).rx (.r0))) ((dpls0A a0 a1 a2 a3 a4 a5 a6 a7 a8 a9 a10 a11 a12 p0 p1 p2 p3 p4 p5 p6 p7).rn (.r0)) ⟨mkT [(6, .ptr (some (2, 0))), (8, .ptr (some (3, 0))), (9, .ptr (some (4, 0))), (22, .fn (.func 92) [] [.ptr (some (5, 0))])], 35, rgP (codeAt dplCode [1, 1, 1, 1, 1, 0, 1, 0]), rgA (codeAt dplCode [1, 1, 1, 1, 1, 0, 1, 0]), rgB (codeAt dplCode [1, 1, 1, 1, 1, 0, 1, 0]), .ready, .none⟩ .normal) := by unfold AF.edgeOk; kernel_rfl
theorem dplrg0_1 (a0 : Bool) (a1 a2 a3 a4 : Int) (a5 : Nat) (a6 a7 : Nat → Int) (a8 : Nat) (a9 a10 a11 a12 : Nat → Int) (p0 : Bool) (p1 p2 p3 p4 : Int) (p5 p6 : Nat) (p7 : Int) (q0 : Nat) (q1 : Int) (q2 q3 : Nat → Int) : AF.edgeOk (dplA a0 a1 a2 a3 a4 a5 a6 a7 a8 a9 a10 a11 a12) (ctxOf Try.prog memo0) (dplRg0 a0 a1 a2 a3 a4 a5 a6 a7 a8 a9 a10 a11 a12 p0 p1 p2 p3 p4 p5 p6 p7 (.r1 q0 q1 q2 q3)) (AF.runR (dplA a0 a1 a2 a3 a4 a5 a6 a7 a8 a9 a10 a11 a12) (ctxOf Try.prog (memoS 67 drcP drcF drcW drcH 2 (memoP 63 dshP dshF dshW dshH 2 memo0))) (.n0 p0 p1 p2 p3 p4 p5 p6 p7) (putH (dpls0A a0 a1 a2 a3 a4 a5 a6 a7 a8 a9 a10 a11 a12 p0 p1 p2 p3 p4 p5 p6 p7).H0 ((dpls0A a0 a1 a2 a3 a4 a5 a6 a7 a8 a9 a10 a11 a12 p0 p1 p2 p3 p4 p5 p6 p7).rh (.r1 q0 q1 q2 q3) ++ (dpls0A a0 a1 a2 a3 a4 a5 a6 a7 a8 a9 a10 a11 a12 p0 p1 p2 p3 p4 p5 p6 p7).rx (.r1 q0 q1 q2 q3))) ((dpls0A a0 a1 a2 a3 a4 a5 a6 a7 a8 a9 a10 a11 a12 p0 p1 p2 p3 p4 p5 p6 p7).rn (.r1 q0 q1 q2 q3)) ⟨mkT [(6, .ptr (some (2, 0))), (8, .ptr (some (3, 0))), (9, .ptr (some (4, 0))), (22, .fn (.func 92) [] [.ptr (some (5, 0))])], 35, rgP (codeAt dplCode [1, 1, 1, 1, 1, 0, 1, 0]), rgA (codeAt dplCode [1, 1, 1, 1, 1, 0, 1, 0]), rgB (codeAt dplCode [1, 1, 1, 1, 1, 0, 1, 0]), .ready, .none⟩ .normal) := by unfold AF.edgeOk; kernel_rfl
theorem dplrg0 (a0 : Bool) (a1 a2 a3 a4 : Int) (a5 : Nat) (a6 a7 : Nat → Int) (a8 : Nat) (a9 a10 a11 a12 : Nat → Int) (p0 : Bool) (p1 p2 p3 p4 : Int) (p5 p6 : Nat) (p7 : Int) : AF.Rg (dplA a0 a1 a2 a3 a4 a5 a6 a7 a8 a9 a10 a11 a12) (dpls0A a0 a1 a2 a3 a4 a5 a6 a7 a8 a9 a10 a11 a12 p0 p1 p2 p3 p4 p5 p6 p7) Try.prog (ctxOf Try.prog (memoS 67 drcP drcF drcW drcH 2 (memoP 63 dshP dshF dshW dshH 2 memo0))) (ctxOf Try.prog (memoS 67 drcP drcF drcW drcH 2 (memoP 63 dshP dshF dshW dshH 2 memo0))) (.n0 p0 p1 p2 p3 p4 p5 p6 p7) (rgF (codeAt dplCode [1, 1, 1, 1, 1, 0, 1, 0])) (rgP (codeAt dplCode [1, 1, 1, 1, 1, 0, 1, 0])) (rgA (codeAt dplCode [1, 1, 1, 1, 1, 0, 1, 0])) (rgB (codeAt dplCode [1, 1, 1, 1, 1, 0, 1, 0])) 92 Try.f92 [] [.ptr (some (5, 0))] (fun v => match v with
   | .r0 => ⟨mkT [(6, .ptr (some (2, 0))), (8, .ptr (some (3, 0))), (9, .ptr (some (4, 0))), (22, .fn (.func 92) [] [.ptr (some (5, 0))])], 35, rgP (codeAt dplCode [1, 1, 1, 1, 1, 0, 1, 0]), rgA (codeAt dplCode [1, 1, 1, 1, 1, 0, 1, 0]), rgB (codeAt dplCode [1, 1, 1, 1, 1, 0, 1, 0]), .ready, .none⟩
   | .r1 q0 q1 q2 q3 => ⟨mkT [(6, .ptr (some (2, 0))), (8, .ptr (some (3, 0))), (9, .ptr (some (4, 0))), (22, .fn (.func 92) [] [.ptr (some (5, 0))])], 35, rgP (codeAt dplCode [1, 1, 1, 1, 1, 0, 1, 0]), rgA (codeAt dplCode [1, 1, 1, 1, 1, 0, 1, 0]), rgB (codeAt dplCode [1, 1, 1, 1, 1, 0, 1, 0]), .ready, .none⟩) (fun v => match v with
   | .r0 => .normal
   | .r1 q0 q1 q2 q3 => .normal) (dplRg0 a0 a1 a2 a3 a4 a5 a6 a7 a8 a9 a10 a11 a12 p0 p1 p2 p3 p4 p5 p6 p7) where
  code := by kernel_rfl
  fn := by kernel_rfl
  args := rfl
  base := rfl
  h0 := rfl
  W := rfl
  gfn := Try.func92
  body := rfl
  nt := rfl
  len := Nat.le_of_ble_eq_true rfl
  res := rfl
  ok := dpls0ok a0 a1 a2 a3 a4 a5 a6 a7 a8 a9 a10 a11 a12 p0 p1 p2 p3 p4 p5 p6 p7
  le := fun v => match v with
   | .r0 => Nat.le_of_ble_eq_true rfl
   | .r1 q0 q1 q2 q3 => Nat.le_of_ble_eq_true rfl
  lt := fun v => match v with
   | .r0 => rfl
   | .r1 q0 q1 q2 q3 => rfl
  rcd := fun v => match v with
   | .r0 => rfl
   | .r1 q0 q1 q2 q3 => rfl
  st := fun v => match v with
   | .r0 => (fun h => LoopState.noConfusion h)
   | .r1 q0 q1 q2 q3 => (fun h => LoopState.noConfusion h)
  exd := fun v => match v with
   | .r0 => rfl
   | .r1 q0 q1 q2 q3 => rfl
  D := fun v => match v with
   | .r0 => dplrg0_0 a0 a1 a2 a3 a4 a5 a6 a7 a8 a9 a10 a11 a12 p0 p1 p2 p3 p4 p5 p6 p7
   | .r1 q0 q1 q2 q3 => dplrg0_1 a0 a1 a2 a3 a4 a5 a6 a7 a8 a9 a10 a11 a12 p0 p1 p2 p3 p4 p5 p6 p7 q0 q1 q2 q3
theorem dplhR {ρ : Env} (a0 : Bool) (a1 a2 a3 a4 : Int) (a5 : Nat) (a6 a7 : Nat → Int) (a8 : Nat) (a9 a10 a11 a12 : Nat → Int) (hM : MemoOk Try.prog (ctxOf Try.prog (memoS 67 drcP drcF drcW drcH 2 (memoP 63 dshP dshF dshW dshH 2 memo0))) ρ) : ∀ X a q n D, FxOk ρ X → X.base = (dplA a0 a1 a2 a3 a4 a5 a6 a7 a8 a9 a10 a11 a12).base → X.nt = (dplA a0 a1 a2 a3 a4 a5 a6 a7 a8 a9 a10 a11 a12).nt → X.W = (dplA a0 a1 a2 a3 a4 a5 a6 a7 a8 a9 a10 a11 a12).W → (dplA a0 a1 a2 a3 a4 a5 a6 a7 a8 a9 a10 a11 a12).rgo a = some q → q n = some D → (dplA a0 a1 a2 a3 a4 a5 a6 a7 a8 a9 a10 a11 a12).RangeOk Try.prog ρ X a D := by
  intro X a q n D h1 h2 h3 h4 hq hD
  cases a with
  | n0 p0 p1 p2 p3 p4 p5 p6 p7 =>
    have e := Option.some.inj hq
    subst e
    exact AF.range_ok (n := n) try_ok hM hM (dplok a0 a1 a2 a3 a4 a5 a6 a7 a8 a9 a10 a11 a12) (dplrg0 a0 a1 a2 a3 a4 a5 a6 a7 a8 a9 a10 a11 a12 p0 p1 p2 p3 p4 p5 p6 p7) (dpls0hR a0 a1 a2 a3 a4 a5 a6 a7 a8 a9 a10 a11 a12 p0 p1 p2 p3 p4 p5 p6 p7 hM) h1 h2 h3 h4 hD
theorem dplctr {ρ : Env} (a0 : Bool) (a1 a2 a3 a4 : Int) (a5 : Nat) (a6 a7 : Nat → Int) (a8 : Nat) (a9 a10 a11 a12 : Nat → Int) {n : Nat} {v : dplR} (hM : MemoOk Try.prog (ctxOf Try.prog (memoS 67 drcP drcF drcW drcH 2 (memoP 63 dshP dshF dshW dshH 2 memo0))) ρ) (hv : (dplA a0 a1 a2 a3 a4 a5 a6 a7 a8 a9 a10 a11 a12).run n = some v) :
    Ctr Try.prog ρ 26 (dplA a0 a1 a2 a3 a4 a5 a6 a7 a8 a9 a10 a11 a12).args (dplA a0 a1 a2 a3 a4 a5 a6 a7 a8 a9 a10 a11 a12).H0 (dplA a0 a1 a2 a3 a4 a5 a6 a7 a8 a9 a10 a11 a12).base (dplA a0 a1 a2 a3 a4 a5 a6 a7 a8 a9 a10 a11 a12).W ((dplA a0 a1 a2 a3 a4 a5 a6 a7 a8 a9 a10 a11 a12).rc v) (putH (dplA a0 a1 a2 a3 a4 a5 a6 a7 a8 a9 a10 a11 a12).H0 ((dplA a0 a1 a2 a3 a4 a5 a6 a7 a8 a9 a10 a11 a12).rh v ++ (dplA a0 a1 a2 a3 a4 a5 a6 a7 a8 a9 a10 a11 a12).rx v)) ((dplA a0 a1 a2 a3 a4 a5 a6 a7 a8 a9 a10 a11 a12).rn v) :=
  AF.ctr try_ok hM (dplok a0 a1 a2 a3 a4 a5 a6 a7 a8 a9 a10 a11 a12) (fn := Try.f26) Try.func26 rfl rfl (Nat.le_of_ble_eq_true rfl) rfl (dplhR a0 a1 a2 a3 a4 a5 a6 a7 a8 a9 a10 a11 a12 hM) hv
theorem dplmem {ρ : Env} : MemoOk Try.prog (ctxOf Try.prog (memoS 67 drcP drcF drcW drcH 2 (memoP 63 dshP dshF dshW dshH 2 memo0))) ρ := (memoS_ok (drcknown drcmem) (memoP_ok (dshknown dshmem) memo0_ok))
abbrev dplP : List AQ := [.agg [.bool, .int .i64, .int .i64, .int .i64, .int .i64, .rows [some .i64, some .i64]], .rows [some .i64, some .i64, some .i64, some .i64]]
noncomputable def dplF (v : AW) : AF dplN dplR := dplA (v.b.getD 0 false) (v.i.getD 0 0) (v.i.getD 1 0) (v.i.getD 2 0) (v.i.getD 3 0) (v.t.getD 0 .none).n ((v.t.getD 0 .none).c 0) ((v.t.getD 0 .none).c 1) (v.t.getD 1 .none).n ((v.t.getD 1 .none).c 0) ((v.t.getD 1 .none).c 1) ((v.t.getD 1 .none).c 2) ((v.t.getD 1 .none).c 3)
def dplw0 : dplR → Nat
  | .r0 p0 => 0
  | .r1 p0 p1 p2 => p0
def dplw1 : dplR → Int
  | .r0 p0 => p0
  | .r1 p0 p1 p2 => 0
def dplw2 : dplR → (Nat → Int)
  | .r0 p0 => fun _ => 0
  | .r1 p0 p1 p2 => p1
def dplw3 : dplR → (Nat → Int)
  | .r0 p0 => fun _ => 0
  | .r1 p0 p1 p2 => p2
noncomputable def dplW : dplR → CV := fun v => .tup [.sla 2 2 0 ((dplw0 v)), .int .i64 (.x ((dplw1 v)))]
noncomputable def dplH : dplR → List (Nat × Blk) := fun v => [(2, ⟨.rows ((dplw0 v)) 2 (fun i => [.int .i64 (.x ((dplw2 v) i)), .int .i64 (.x ((dplw3 v) i))]) (fun _ => ⟨rfl, rfl⟩), 2, true, none⟩)]
instance : Inhabited dplR := ⟨.r0 0⟩
theorem dplknown {ρ : Env} (hM : MemoOk Try.prog (ctxOf Try.prog (memoS 67 drcP drcF drcW drcH 2 (memoP 63 dshP dshF dshW dshH 2 memo0))) ρ) : KnownS Try.prog ρ 26 dplP dplF dplW dplH 3 where
  fn := ⟨Try.f26, Try.func26, rfl⟩
  le := Nat.le_of_ble_eq_true rfl
  full := fun r => rfl
  rg := fun r => rfl
  hg := fun r => (fa_cons ⟨fun _ => rfl, rfl⟩ fa_nil)
  ctr := fun v n r h => match r, h with
    | .r0 p0, h => Ctr.weaken (dplctr (v.b.getD 0 false) (v.i.getD 0 0) (v.i.getD 1 0) (v.i.getD 2 0) (v.i.getD 3 0) (v.t.getD 0 .none).n ((v.t.getD 0 .none).c 0) ((v.t.getD 0 .none).c 1) (v.t.getD 1 .none).n ((v.t.getD 1 .none).c 0) ((v.t.getD 1 .none).c 1) ((v.t.getD 1 .none).c 2) ((v.t.getD 1 .none).c 3) hM h) (Nat.le_of_ble_eq_true rfl) (Nat.le_of_ble_eq_true rfl) (fun σ => (fun _ h => VR.tup_imp (VRl.cons_imp (fun _ h => h.nil_sla) (VRl.cons_imp (fun _ h => h) VRl.nil_imp)) h)) (fun b h1 h2 => absurd (Nat.lt_of_le_of_lt h1 h2) (Nat.lt_irrefl _))
    | .r1 p0 p1 p2, h => Ctr.weaken (dplctr (v.b.getD 0 false) (v.i.getD 0 0) (v.i.getD 1 0) (v.i.getD 2 0) (v.i.getD 3 0) (v.t.getD 0 .none).n ((v.t.getD 0 .none).c 0) ((v.t.getD 0 .none).c 1) (v.t.getD 1 .none).n ((v.t.getD 1 .none).c 0) ((v.t.getD 1 .none).c 1) ((v.t.getD 1 .none).c 2) ((v.t.getD 1 .none).c 3) hM h) (Nat.le_of_ble_eq_true rfl) (Nat.le_of_ble_eq_true rfl) (fun σ => (fun _ h => VR.tup_imp (VRl.cons_imp (fun _ h => h.as_sla) (VRl.cons_imp (fun _ h => h) VRl.nil_imp)) h)) (fun b h1 h2 => rfl)
end Go.Proofs.Ythagjhadjpangaa.Cx

/- acme/acmeref07.Plan as an automaton. Made by tools/cxauto.py. -/
namespace Go.Proofs.Ythagjhadjpangaa.Cx
set_option linter.unusedVariables false
set_option linter.unusedSimpArgs false
set_option maxRecDepth 100000
open Go Go.Proofs Go.RowKit
noncomputable abbrev rdpCode : Code := funcCode Try.f29
inductive rdpN where
  | n0
  | n1 (p0 : Nat) (p1 : Int) (p2 p3 : Nat → Int)
inductive rdpR where
  | r0
  | r1
  | r2 (p0 : Nat) (p1 p2 : Nat → Int)
noncomputable def rdpD0 (a0 : Bool) (a1 a2 a3 a4 : Int) (a5 : Nat) (a6 a7 : Nat → Int) (a8 : Nat) (a9 a10 a11 a12 : Nat → Int) : DD (Lf rdpN rdpR) :=
 .leaf (.next (.n0) [2, 3])

noncomputable def rdpD (a0 : Bool) (a1 a2 a3 a4 : Int) (a5 : Nat) (a6 a7 : Nat → Int) (a8 : Nat) (a9 a10 a11 a12 : Nat → Int) : rdpN → DD (Lf rdpN rdpR)
 | .n0 =>
 let z0 := decide (0 + a8 ≤ a8)
 let z1 := fun i => [CV.int IntKind.i64 (IE.x (a9 (0 + i))), CV.int IntKind.i64 (IE.x (a10 (0 + i))), CV.int IntKind.i64 (IE.x (a11 (0 + i))), CV.int IntKind.i64 (IE.x (a12 (0 + i)))]
 let z2 := ShapeOk [some IntKind.i64, some IntKind.i64, some IntKind.i64, some IntKind.i64] (tabOf a8 z1) z1
 let z3 := fun i => a9 (0 + i)
 let z4 := fun i => a10 (0 + i)
 let z5 := fun i => a11 (0 + i)
 let z6 := fun i => a12 (0 + i)
 let z7 := rdaA a8 z3 z4 z5 z6
 let z8 := decide (0 + a5 ≤ a5)
 let z9 := fun i => [CV.int IntKind.i64 (IE.x (a6 (0 + i))), CV.int IntKind.i64 (IE.x (a7 (0 + i)))]
 let z10 := ShapeOk [some IntKind.i64, some IntKind.i64] (tabOf a5 z9) z9
 let z11 := fun i => a6 (0 + i)
 let z12 := fun i => a7 (0 + i)
 let z13 := rdrA a0 a1 a2 a3 a4 a5 z11 z12 a8 z3 z4 z5 z6 0
 let z14 := AF.val z13
 let z15 := rdtA a0 a1 a2 a3 a4 a5 z11 z12 a8 z3 z4 z5 z6 0 z14
 .must z0
   (.must z2
   (.must (AF.fin z7)
   (.ask (Cm.run .lss 0 (AF.val z7))
   (.must z8
   (.must z10
   (.must z0
   (.must z2
   (.must (AF.fin z13)
   (.ask (Cm.run .eql z14 0)
   (.leaf (.done (.r1) []))
   (.must z8
   (.must z10
   (.must z0
   (.must z2
   (.must (AF.fin z15)
   (.leaf (.next (.n1 1 z14 (fun i => 0) (fun i => Prod.fst (AF.val z15))) [2, 5])))))))))))))
   (.leaf (.done (.r0) [3])))))
 | .n1 p0 p1 p2 p3 =>
 let z0 := decide (0 + a8 ≤ a8)
 let z1 := fun i => [CV.int IntKind.i64 (IE.x (a9 (0 + i))), CV.int IntKind.i64 (IE.x (a10 (0 + i))), CV.int IntKind.i64 (IE.x (a11 (0 + i))), CV.int IntKind.i64 (IE.x (a12 (0 + i)))]
 let z2 := ShapeOk [some IntKind.i64, some IntKind.i64, some IntKind.i64, some IntKind.i64] (tabOf a8 z1) z1
 let z3 := fun i => a9 (0 + i)
 let z4 := fun i => a10 (0 + i)
 let z5 := fun i => a11 (0 + i)
 let z6 := fun i => a12 (0 + i)
 let z7 := rdaA a8 z3 z4 z5 z6
 let z8 := decide (0 + a5 ≤ a5)
 let z9 := fun i => [CV.int IntKind.i64 (IE.x (a6 (0 + i))), CV.int IntKind.i64 (IE.x (a7 (0 + i)))]
 let z10 := ShapeOk [some IntKind.i64, some IntKind.i64] (tabOf a5 z9) z9
 let z11 := fun i => a6 (0 + i)
 let z12 := fun i => a7 (0 + i)
 let z13 := rdrA a0 a1 a2 a3 a4 a5 z11 z12 a8 z3 z4 z5 z6 p1
 let z14 := AF.val z13
 let z15 := rdtA a0 a1 a2 a3 a4 a5 z11 z12 a8 z3 z4 z5 z6 p1 z14
 .must z0
   (.must z2
   (.must (AF.fin z7)
   (.ask (Cm.run .lss p1 (AF.val z7))
   (.must z8
   (.must z10
   (.must z0
   (.must z2
   (.must (AF.fin z13)
   (.ask (Cm.run .eql z14 p1)
   (.leaf (.done (.r1) []))
   (.must z8
   (.must z10
   (.must z0
   (.must z2
   (.must (AF.fin z15)
   (.must (decide (0 + p0 ≤ p0))
   (.must (decide (p0 + 1 ≤ 10000))
   (.leaf (.next (.n1 (p0 + 1) z14 (fun i => bif Nat.blt i p0 then p2 (0 + i) else p1) (fun i => bif Nat.blt i p0 then p3 (0 + i) else Prod.fst (AF.val z15))) [2, 5])))))))))))))))
   (.leaf (.done (.r2 p0 (fun i => p2 i) (fun i => p3 i)) [3])))))

noncomputable def rdpA (a0 : Bool) (a1 a2 a3 a4 : Int) (a5 : Nat) (a6 a7 : Nat → Int) (a8 : Nat) (a9 a10 a11 a12 : Nat → Int) : AF rdpN rdpR where
  code := rdpCode
  base := 2
  nt := 34
  m := 400
  un := []
  W := []
  h0 := [(0, ⟨.arg a5 2 (fun i => [.int .i64 (.x (a6 i)), .int .i64 (.x (a7 i))]) (fun _ => ⟨rfl, rfl⟩), 2, true, none⟩), (1, ⟨.arg a8 4 (fun i => [.int .i64 (.x (a9 i)), .int .i64 (.x (a10 i)), .int .i64 (.x (a11 i)), .int .i64 (.x (a12 i))]) (fun _ => ⟨rfl, rfl⟩), 4, true, none⟩)]
  args := [.agg [.bool (.x a0), .int .i64 (.x a1), .int .i64 (.x a2), .int .i64 (.x a3), .int .i64 (.x a4), .sla 0 2 0 a5], .sla 1 4 0 a8]
  res := (Try.f29).results.toList
  path := fun a => match a with
   | .n0 => [1, 1, 0, 1, 0]
   | .n1 p0 p1 p2 p3 => [1, 1, 0, 1, 0]
  pd := fun a => match a with
   | .n0 => ⟨[(1, .sla 1 4 0 a8), (2, .ptr (some (2, 0))), (6, .slc (some (3, 0)) 0 0), (7, .int .i64 (.x 0))], [(2, ⟨.lit [.bool (.x a0), .int .i64 (.x a1), .int .i64 (.x a2), .int .i64 (.x a3), .int .i64 (.x a4), .sla 0 2 0 a5], 0, true, none⟩), (3, ⟨.lit [], 2, true, none⟩)], 4, []⟩
   | .n1 p0 p1 p2 p3 => ⟨[(1, .sla 1 4 0 a8), (2, .ptr (some (2, 0))), (6, .slx 3 2 0 p0 p0), (7, .int .i64 (.x p1))], [(2, ⟨.lit [.bool (.x a0), .int .i64 (.x a1), .int .i64 (.x a2), .int .i64 (.x a3), .int .i64 (.x a4), .sla 0 2 0 a5], 0, true, none⟩), (3, ⟨.rows p0 2 (fun i => [.int .i64 (.x (p2 i)), .int .i64 (.x (p3 i))]) (fun _ => ⟨rfl, rfl⟩), 2, true, none⟩)], 4, []⟩
  D0 := rdpD0 a0 a1 a2 a3 a4 a5 a6 a7 a8 a9 a10 a11 a12
  D := rdpD a0 a1 a2 a3 a4 a5 a6 a7 a8 a9 a10 a11 a12
  rc := (fun v => match v with
 | .r0 => .tup [.slc (some (2, 0)) 0 0, .bool (.x true)]
 | .r1 => .tup [.slc none 0 0, .bool (.x false)]
 | .r2 p0 p1 p2 => .tup [.slx 2 2 0 p0 p0, .bool (.x true)])
  rh := (fun v => match v with
 | .r0 => [(2, ⟨.lit [], 2, true, none⟩)]
 | .r1 => []
 | .r2 p0 p1 p2 => [(2, ⟨.rows p0 2 (fun i => [.int .i64 (.x (p1 i)), .int .i64 (.x (p2 i))]) (fun _ => ⟨rfl, rfl⟩), 2, true, none⟩)])
  rn := (fun v => match v with
 | .r0 => 3
 | .r1 => 2
 | .r2 p0 p1 p2 => 3)
  rx := (fun v => match v with
 | .r0 => []
 | .r1 => []
 | .r2 p0 p1 p2 => [])
  rgo := (fun _ => none)
theorem rdpstart (a0 : Bool) (a1 a2 a3 a4 : Int) (a5 : Nat) (a6 a7 : Nat → Int) (a8 : Nat) (a9 a10 a11 a12 : Nat → Int) : AF.edgeOk (rdpA a0 a1 a2 a3 a4 a5 a6 a7 a8 a9 a10 a11 a12) (ctxOf Try.prog memo0) (rdpD0 a0 a1 a2 a3 a4 a5 a6 a7 a8 a9 a10 a11 a12) (AF.run0 (rdpA a0 a1 a2 a3 a4 a5 a6 a7 a8 a9 a10 a11 a12) (ctxOf Try.prog (memoS 22 rdaP rdaF rdaW rdaH 1 (memoS 24 rdtP rdtF rdtW rdtH 2 (memoS 28 rdrP rdrF rdrW rdrH 2 memo0))))) := by unfold AF.edgeOk; kernel_rfl
theorem rdpnode0 (a0 : Bool) (a1 a2 a3 a4 : Int) (a5 : Nat) (a6 a7 : Nat → Int) (a8 : Nat) (a9 a10 a11 a12 : Nat → Int) : AF.edgeOk (rdpA a0 a1 a2 a3 a4 a5 a6 a7 a8 a9 a10 a11 a12) (ctxOf Try.prog memo0) (rdpD a0 a1 a2 a3 a4 a5 a6 a7 a8 a9 a10 a11 a12 (.n0)) (AF.runN (rdpA a0 a1 a2 a3 a4 a5 a6 a7 a8 a9 a10 a11 a12) (ctxOf Try.prog (memoS 22 rdaP rdaF rdaW rdaH 1 (memoS 24 rdtP rdtF rdtW rdtH 2 (memoS 28 rdrP rdrF rdrW rdrH 2 memo0)))) (.n0)) := by unfold AF.edgeOk; kernel_rfl
theorem rdpnode1 (a0 : Bool) (a1 a2 a3 a4 : Int) (a5 : Nat) (a6 a7 : Nat → Int) (a8 : Nat) (a9 a10 a11 a12 : Nat → Int) (p0 : Nat) (p1 : Int) (p2 p3 : Nat → Int) : AF.edgeOk (rdpA a0 a1 a2 a3 a4 a5 a6 a7 a8 a9 a10 a11 a12) (ctxOf Try.prog memo0) (rdpD a0 a1 a2 a3 a4 a5 a6 a7 a8 a9 a10 a11 a12 (.n1 p0 p1 p2 p3)) (AF.runN (rdpA a0 a1 a2 a3 a4 a5 a6 a7 a8 a9 a10 a11 a12) (ctxOf Try.prog (memoS 22 rdaP rdaF rdaW rdaH 1 (memoS 24 rdtP rdtF rdtW rdtH 2 (memoS 28 rdrP rdrF rdrW rdrH 2 memo0)))) (.n1 p0 p1 p2 p3)) := by unfold AF.edgeOk; kernel_rfl
theorem rdpok (a0 : Bool) (a1 a2 a3 a4 : Int) (a5 : Nat) (a6 a7 : Nat → Int) (a8 : Nat) (a9 a10 a11 a12 : Nat → Int) : (rdpA a0 a1 a2 a3 a4 a5 a6 a7 a8 a9 a10 a11 a12).Ok Try.prog (ctxOf Try.prog (memoS 22 rdaP rdaF rdaW rdaH 1 (memoS 24 rdtP rdtF rdtW rdtH 2 (memoS 28 rdrP rdrF rdrW rdrH 2 memo0)))) where
  regs := by kernel_rfl
  h0 := by kernel_rfl
  start := rdpstart a0 a1 a2 a3 a4 a5 a6 a7 a8 a9 a10 a11 a12
  node := fun a _ => match a with
   | .n0 => rdpnode0 a0 a1 a2 a3 a4 a5 a6 a7 a8 a9 a10 a11 a12
   | .n1 p0 p1 p2 p3 => rdpnode1 a0 a1 a2 a3 a4 a5 a6 a7 a8 a9 a10 a11 a12 p0 p1 p2 p3
  pd := fun a => match a with
   | .n0 => ⟨(fa_cons rfl (fa_cons rfl (fa_cons rfl (fa_cons rfl fa_nil)))), (fa_cons ⟨.inl (Nat.le_of_ble_eq_true rfl), rfl, rfl⟩ (fa_cons ⟨.inl (Nat.le_of_ble_eq_true rfl), rfl, rfl⟩ fa_nil)), fa_nil, rfl⟩
   | .n1 p0 p1 p2 p3 => ⟨(fa_cons rfl (fa_cons rfl (fa_cons rfl (fa_cons rfl fa_nil)))), (fa_cons ⟨.inl (Nat.le_of_ble_eq_true rfl), rfl, rfl⟩ (fa_cons ⟨.inl (Nat.le_of_ble_eq_true rfl), (fun _ => rfl), rfl⟩ fa_nil)), fa_nil, rfl⟩
  le := fun a => match a with
   | .n0 => Nat.le_of_ble_eq_true rfl
   | .n1 p0 p1 p2 p3 => Nat.le_of_ble_eq_true rfl
  rd := fun v => match v with
   | .r0 => ⟨⟨fa_nil, (fa_cons ⟨.inl (Nat.le_of_ble_eq_true rfl), rfl, rfl⟩ fa_nil), fa_nil, rfl⟩, rfl⟩
   | .r1 => ⟨⟨fa_nil, fa_nil, fa_nil, rfl⟩, rfl⟩
   | .r2 p0 p1 p2 => ⟨⟨fa_nil, (fa_cons ⟨.inl (Nat.le_of_ble_eq_true rfl), (fun _ => rfl), rfl⟩ fa_nil), fa_nil, rfl⟩, rfl⟩
  wb := rfl
theorem rdphR {ρ : Env} (a0 : Bool) (a1 a2 a3 a4 : Int) (a5 : Nat) (a6 a7 : Nat → Int) (a8 : Nat) (a9 a10 a11 a12 : Nat → Int) (hM : MemoOk Try.prog (ctxOf Try.prog (memoS 22 rdaP rdaF rdaW rdaH 1 (memoS 24 rdtP rdtF rdtW rdtH 2 (memoS 28 rdrP rdrF rdrW rdrH 2 memo0)))) ρ) : ∀ X a q n D, FxOk ρ X → X.base = (rdpA a0 a1 a2 a3 a4 a5 a6 a7 a8 a9 a10 a11 a12).base → X.nt = (rdpA a0 a1 a2 a3 a4 a5 a6 a7 a8 a9 a10 a11 a12).nt → X.W = (rdpA a0 a1 a2 a3 a4 a5 a6 a7 a8 a9 a10 a11 a12).W → (rdpA a0 a1 a2 a3 a4 a5 a6 a7 a8 a9 a10 a11 a12).rgo a = some q → q n = some D → (rdpA a0 a1 a2 a3 a4 a5 a6 a7 a8 a9 a10 a11 a12).RangeOk Try.prog ρ X a D := AF.noRange rfl
theorem rdpctr {ρ : Env} (a0 : Bool) (a1 a2 a3 a4 : Int) (a5 : Nat) (a6 a7 : Nat → Int) (a8 : Nat) (a9 a10 a11 a12 : Nat → Int) {n : Nat} {v : rdpR} (hM : MemoOk Try.prog (ctxOf Try.prog (memoS 22 rdaP rdaF rdaW rdaH 1 (memoS 24 rdtP rdtF rdtW rdtH 2 (memoS 28 rdrP rdrF rdrW rdrH 2 memo0)))) ρ) (hv : (rdpA a0 a1 a2 a3 a4 a5 a6 a7 a8 a9 a10 a11 a12).run n = some v) :
    Ctr Try.prog ρ 29 (rdpA a0 a1 a2 a3 a4 a5 a6 a7 a8 a9 a10 a11 a12).args (rdpA a0 a1 a2 a3 a4 a5 a6 a7 a8 a9 a10 a11 a12).H0 (rdpA a0 a1 a2 a3 a4 a5 a6 a7 a8 a9 a10 a11 a12).base (rdpA a0 a1 a2 a3 a4 a5 a6 a7 a8 a9 a10 a11 a12).W ((rdpA a0 a1 a2 a3 a4 a5 a6 a7 a8 a9 a10 a11 a12).rc v) (putH (rdpA a0 a1 a2 a3 a4 a5 a6 a7 a8 a9 a10 a11 a12).H0 ((rdpA a0 a1 a2 a3 a4 a5 a6 a7 a8 a9 a10 a11 a12).rh v ++ (rdpA a0 a1 a2 a3 a4 a5 a6 a7 a8 a9 a10 a11 a12).rx v)) ((rdpA a0 a1 a2 a3 a4 a5 a6 a7 a8 a9 a10 a11 a12).rn v) :=
  AF.ctr try_ok hM (rdpok a0 a1 a2 a3 a4 a5 a6 a7 a8 a9 a10 a11 a12) (fn := Try.f29) Try.func29 rfl rfl (Nat.le_of_ble_eq_true rfl) rfl (rdphR a0 a1 a2 a3 a4 a5 a6 a7 a8 a9 a10 a11 a12 hM) hv
theorem rdpmem {ρ : Env} : MemoOk Try.prog (ctxOf Try.prog (memoS 22 rdaP rdaF rdaW rdaH 1 (memoS 24 rdtP rdtF rdtW rdtH 2 (memoS 28 rdrP rdrF rdrW rdrH 2 memo0)))) ρ := (memoS_ok (rdaknown rdamem) (memoS_ok (rdtknown rdtmem) (memoS_ok (rdrknown rdrmem) memo0_ok)))
abbrev rdpP : List AQ := [.agg [.bool, .int .i64, .int .i64, .int .i64, .int .i64, .rows [some .i64, some .i64]], .rows [some .i64, some .i64, some .i64, some .i64]]
noncomputable def rdpF (v : AW) : AF rdpN rdpR := rdpA (v.b.getD 0 false) (v.i.getD 0 0) (v.i.getD 1 0) (v.i.getD 2 0) (v.i.getD 3 0) (v.t.getD 0 .none).n ((v.t.getD 0 .none).c 0) ((v.t.getD 0 .none).c 1) (v.t.getD 1 .none).n ((v.t.getD 1 .none).c 0) ((v.t.getD 1 .none).c 1) ((v.t.getD 1 .none).c 2) ((v.t.getD 1 .none).c 3)
def rdpw0 : rdpR → Nat
  | .r0 => 0
  | .r1 => 0
  | .r2 p0 p1 p2 => p0
def rdpw1 : rdpR → Bool
  | .r0 => true
  | .r1 => false
  | .r2 p0 p1 p2 => true
def rdpw2 : rdpR → (Nat → Int)
  | .r0 => fun _ => 0
  | .r1 => fun _ => 0
  | .r2 p0 p1 p2 => p1
def rdpw3 : rdpR → (Nat → Int)
  | .r0 => fun _ => 0
  | .r1 => fun _ => 0
  | .r2 p0 p1 p2 => p2
noncomputable def rdpW : rdpR → CV := fun v => .tup [.sla 2 2 0 ((rdpw0 v)), .bool (.x ((rdpw1 v)))]
noncomputable def rdpH : rdpR → List (Nat × Blk) := fun v => [(2, ⟨.rows ((rdpw0 v)) 2 (fun i => [.int .i64 (.x ((rdpw2 v) i)), .int .i64 (.x ((rdpw3 v) i))]) (fun _ => ⟨rfl, rfl⟩), 2, true, none⟩)]
instance : Inhabited rdpR := ⟨.r0⟩
theorem rdpknown {ρ : Env} (hM : MemoOk Try.prog (ctxOf Try.prog (memoS 22 rdaP rdaF rdaW rdaH 1 (memoS 24 rdtP rdtF rdtW rdtH 2 (memoS 28 rdrP rdrF rdrW rdrH 2 memo0)))) ρ) : KnownS Try.prog ρ 29 rdpP rdpF rdpW rdpH 3 where
  fn := ⟨Try.f29, Try.func29, rfl⟩
  le := Nat.le_of_ble_eq_true rfl
  full := fun r => rfl
  rg := fun r => rfl
  hg := fun r => (fa_cons ⟨fun _ => rfl, rfl⟩ fa_nil)
  ctr := fun v n r h => match r, h with
    | .r0, h => Ctr.forget (rdpctr (v.b.getD 0 false) (v.i.getD 0 0) (v.i.getD 1 0) (v.i.getD 2 0) (v.i.getD 3 0) (v.t.getD 0 .none).n ((v.t.getD 0 .none).c 0) ((v.t.getD 0 .none).c 1) (v.t.getD 1 .none).n ((v.t.getD 1 .none).c 0) ((v.t.getD 1 .none).c 1) ((v.t.getD 1 .none).c 2) ((v.t.getD 1 .none).c 3) hM h) (Nat.le_of_ble_eq_true rfl) (Nat.le_of_ble_eq_true rfl) (fun σ => (fun _ h => VR.tup_imp (VRl.cons_imp (fun _ h => h.empty_sla) (VRl.cons_imp (fun _ h => h) VRl.nil_imp)) h)) (fun b h1 h2 k hk => by
      obtain rfl : b = 2 := Nat.le_antisymm (Nat.le_of_lt_succ h2) h1
      have hk := Option.some.inj hk
      subst hk
      exact ⟨_, rfl, rfl, rfl, rfl, rfl, rfl⟩)
    | .r1, h => Ctr.weaken (rdpctr (v.b.getD 0 false) (v.i.getD 0 0) (v.i.getD 1 0) (v.i.getD 2 0) (v.i.getD 3 0) (v.t.getD 0 .none).n ((v.t.getD 0 .none).c 0) ((v.t.getD 0 .none).c 1) (v.t.getD 1 .none).n ((v.t.getD 1 .none).c 0) ((v.t.getD 1 .none).c 1) ((v.t.getD 1 .none).c 2) ((v.t.getD 1 .none).c 3) hM h) (Nat.le_of_ble_eq_true rfl) (Nat.le_of_ble_eq_true rfl) (fun σ => (fun _ h => VR.tup_imp (VRl.cons_imp (fun _ h => h.nil_sla) (VRl.cons_imp (fun _ h => h) VRl.nil_imp)) h)) (fun b h1 h2 => absurd (Nat.lt_of_le_of_lt h1 h2) (Nat.lt_irrefl _))
    | .r2 p0 p1 p2, h => Ctr.weaken (rdpctr (v.b.getD 0 false) (v.i.getD 0 0) (v.i.getD 1 0) (v.i.getD 2 0) (v.i.getD 3 0) (v.t.getD 0 .none).n ((v.t.getD 0 .none).c 0) ((v.t.getD 0 .none).c 1) (v.t.getD 1 .none).n ((v.t.getD 1 .none).c 0) ((v.t.getD 1 .none).c 1) ((v.t.getD 1 .none).c 2) ((v.t.getD 1 .none).c 3) hM h) (Nat.le_of_ble_eq_true rfl) (Nat.le_of_ble_eq_true rfl) (fun σ => (fun _ h => VR.tup_imp (VRl.cons_imp (fun _ h => h.as_sla) (VRl.cons_imp (fun _ h => h) VRl.nil_imp)) h)) (fun b h1 h2 => rfl)
end Go.Proofs.Ythagjhadjpangaa.Cx

/- Package die: Reach and Plan, the program's and the reference's. -/
namespace Go.Proofs.Ythagjhadjpangaa.Cx
set_option linter.unusedVariables false
set_option linter.unusedSimpArgs false
set_option maxRecDepth 100000
set_option maxHeartbeats 4000000
open Go Go.RowKit
def loJ (a0 : Bool) (a1 a3 : Int) (a6 a7 : Nat → Int) (a8 : Nat) (a9 a10 a11 : Nat → Int) (f : Int) (n : Nat) : Int := LoM (-1152921504606846976) (tlP a0 a1 a3 a6 a7 a10 a9 a11 a8 f) n
def hiJ (a0 : Bool) (a2 a4 : Int) (a6 a7 : Nat → Int) (a8 : Nat) (a9 a10 a12 : Nat → Int) (f : Int) (n : Nat) : Int := HiM 1152921504606846976 (thP a0 a2 a4 a6 a7 a10 a9 a12 a8 f) n
section
variable {a0 : Bool} {a1 a2 a3 a4 : Int} {a5 : Nat} {a6 a7 : Nat → Int} {a8 : Nat} {a9 a10 a11 a12 : Nat → Int} {a13 a14 : Int}
theorem narr : Narr (loJ a0 a1 a3 a6 a7 a8 a9 a10 a11) (hiJ a0 a2 a4 a6 a7 a8 a9 a10 a12) := ⟨fun f i j h => LoM_mono j h, fun f i j h => HiM_mono j h⟩
theorem rj_of (h : JobOk a1 a2 a3 a4 a5 a6 a7 a8 a9 a10 a11 a12) (h0 : 0 ≤ a13) (h1 : a13 < PS a9 a8) {w x y z : Int} (hR : RchG a0 a1 a2 a3 a4 a5 a6 a7 a8 a9 a10 a11 a12 w (-10000000000) 20000000000 a13 (PS a9 a8) x y z) : ∃ J : Nat, RJ (PS a9 a8) (loJ a0 a1 a3 a6 a7 a8 a9 a10 a11) (hiJ a0 a2 a4 a6 a7 a8 a9 a10 a12) a13 J ∧ z = a13 + J ∧ (0 < J → x = (loJ a0 a1 a3 a6 a7 a8 a9 a10 a11) a13 J ∧ y = (hiJ a0 a2 a4 a6 a7 a8 a9 a10 a12) a13 J) := by
  obtain ⟨J, j1, j2, j3, rfl, rfl, rfl⟩ := hR
  have el := h.lo (a0 := a0) (a13 := a13) h0 h1
  have eh := h.hi (a0 := a0) (a13 := a13) h0 h1
  have e1 : 0 < J → LoM (-10000000000) (tlP a0 a1 a3 a6 a7 a10 a9 a11 a8 a13) J = (loJ a0 a1 a3 a6 a7 a8 a9 a10 a11) a13 J ∧ HiM 20000000000 (thP a0 a2 a4 a6 a7 a10 a9 a12 a8 a13) J = (hiJ a0 a2 a4 a6 a7 a8 a9 a10 a12) a13 J := fun hj => by
    obtain ⟨K, rfl⟩ : ∃ K, J = K + 1 := ⟨J - 1, by omega⟩
    exact ⟨el K, eh K⟩
  refine ⟨J, ⟨j1, fun hj => ?_, fun hj => ?_⟩, rfl, e1⟩
  · have := j2 hj
    rw [el, eh] at this
    exact this
  · have := j3 hj
    rw [(e1 hj).1, (e1 hj).2] at this
    exact this
theorem rdr_val (h : JobOk a1 a2 a3 a4 a5 a6 a7 a8 a9 a10 a11 a12) (h0 : 0 ≤ a13) (h1 : a13 < PS a9 a8) : AF.fin (rdrA a0 a1 a2 a3 a4 a5 a6 a7 a8 a9 a10 a11 a12 a13) = true ∧ ∃ J : Nat, RJ (PS a9 a8) (loJ a0 a1 a3 a6 a7 a8 a9 a10 a11) (hiJ a0 a2 a4 a6 a7 a8 a9 a10 a12) a13 J ∧ AF.val (rdrA a0 a1 a2 a3 a4 a5 a6 a7 a8 a9 a10 a11 a12 a13) = ((a13 + (J : Int) : Int)) := by
  obtain ⟨af, av⟩ := rda_val (a0 := a8) (a1 := a9) (a2 := a10) (a3 := a11) (a4 := a12) h.few h.pc
  have avE : AF.val (rdaA a8 (fun i => a9 i) (fun i => a10 i) (fun i => a11 i) (fun i => a12 i)) = _ := av
  have few := h.few
  have tot := (h.wsum (f := a13) (j := 0) h0 (by omega)).2.2
  refine AF.val_sat (E := fun v => ∃ J : Nat, RJ (PS a9 a8) (loJ a0 a1 a3 a6 a7 a8 a9 a10 a11) (hiJ a0 a2 a4 a6 a7 a8 a9 a10 a12) a13 J ∧ v = ((a13 + (J : Int) : Int))) (Inv := fun b => match b with | .n0 p => a13 ≤ p ∧ p ≤ PS a9 a8 ∧ (a13 < p → (loJ a0 a1 a3 a6 a7 a8 a9 a10 a11) a13 (p - a13).toNat ≤ (hiJ a0 a2 a4 a6 a7 a8 a9 a10 a12) a13 (p - a13).toNat)) (fun b => match b with | .n0 p => (PS a9 a8 - p).toNat) (fun _ => rfl) (fun a hI => ?_) ?_
  · cases a with
    | n0 p =>
      obtain ⟨g0, g1, g2⟩ := hI
      show DD.sat _ _ (rdrD a0 a1 a2 a3 a4 a5 a6 a7 a8 a9 a10 a11 a12 a13 (.n0 p))
      unfold rdrD
      have ea : p < PS a9 a8 → Ar.run .add .i64 p 1 = p + 1 := fun h => arAdd (by omega)
      simp only [DD.sat, Nat.zero_add, cmLss, cmLssF, cmLeq, cmLeqF, cmGtr, cmGtrF, cmGeq, cmGeqF, cmEql, cmEqlF, cmNeq, cmNeqF, decide_eq_true_eq, Bool.not_eq_true', Bool.not_eq_false', avE]
      refine ⟨Nat.le_refl _, shape_ok fun i _ => rfl, af, fun hp => ?_, fun hp => ⟨(p - a13).toNat, ⟨by omega, fun hx => by omega, fun hx => g2 (by omega)⟩, by omega⟩⟩
      obtain ⟨tf, tv⟩ := rdt_val (a0 := a0) (a13 := a13) (a14 := p + 1) h h0 (by omega) (by omega)
      have tvE : AF.val (rdtA a0 a1 a2 a3 a4 a5 (fun i => a6 i) (fun i => a7 i) a8 (fun i => a9 i) (fun i => a10 i) (fun i => a11 i) (fun i => a12 i) a13 (p + 1)) = _ := tv
      have en : (p + 1 - a13).toNat = (p - a13).toNat + 1 := by omega
      simp only [ea hp, tvE]
      refine ⟨Nat.le_refl _, shape_ok fun i _ => rfl, Nat.le_refl _, shape_ok fun i _ => rfl, tf, fun hx => ⟨⟨by omega, by omega, fun _ => hx⟩, by omega⟩, fun hx => ⟨(p - a13).toNat, ⟨by omega, fun _ => ?_, fun hx => g2 (by omega)⟩, by omega⟩⟩
      rw [en] at hx
      exact hx
  · exact ⟨Int.le_refl _, Int.le_of_lt h1, fun hx => by omega⟩
/-- What Reach yields. -/
def ReaE (a0 : Bool) (a1 a2 a3 a4 : Int) (a5 : Nat) (a6 a7 : Nat → Int) (a8 : Nat) (a9 a10 a11 a12 : Nat → Int) (a13 : Int) (v : Int × Int) : Prop :=
  ∃ e, CkS a5 a8 (ToolOk a5 a6 a7 a1 a2 a3 a4) a9 a10 a11 a12 e ∧ (e ≠ 0 ∧ v = (0, e) ∨ e = 0 ∧ (¬ (0 ≤ a13 ∧ a13 < PS a9 a8) ∧ v = (0, 3) ∨
    (0 ≤ a13 ∧ a13 < PS a9 a8) ∧ ∃ J : Nat, RJ (PS a9 a8) (loJ a0 a1 a3 a6 a7 a8 a9 a10 a11) (hiJ a0 a2 a4 a6 a7 a8 a9 a10 a12) a13 J ∧ v = (a13 + J, 0)))
theorem dra_val (hn : a5 ≤ 10000) (hm : a8 ≤ 10000) : AF.fin (draA a0 a1 a2 a3 a4 a5 a6 a7 a8 a9 a10 a11 a12 a13) = true ∧ ReaE a0 a1 a2 a3 a4 a5 a6 a7 a8 a9 a10 a11 a12 a13 (AF.val (draA a0 a1 a2 a3 a4 a5 a6 a7 a8 a9 a10 a11 a12 a13)) := by
  obtain ⟨hf, e, hC, hv⟩ := dsh_val (a0 := a0) (a1 := a1) (a2 := a2) (a3 := a3) (a4 := a4) (a5 := a5) (a6 := a6) (a7 := a7) (a8 := a8) (a9 := a9) (a10 := a10) (a11 := a11) (a12 := a12) hn hm
  refine flat_val (E := ReaE a0 a1 a2 a3 a4 a5 a6 a7 a8 a9 a10 a11 a12 a13) (fun _ => rfl) ?_
  show DD.sat _ _ (draD0 a0 a1 a2 a3 a4 a5 a6 a7 a8 a9 a10 a11 a12 a13)
  unfold draD0
  rcases hv with ⟨he, hv⟩ | ⟨rfl, hv⟩
  · have hv' : AF.val (dshA a0 a1 a2 a3 a4 a5 (fun i => a6 i) (fun i => a7 i) a8 (fun i => a9 i) (fun i => a10 i) (fun i => a11 i) (fun i => a12 i)) = .r0 e := hv
    simp only [DD.sat, Nat.zero_add, cmLss, cmLssF, cmLeq, cmLeqF, cmGtr, cmGtrF, cmGeq, cmGeqF, cmEql, cmEqlF, cmNeq, cmNeqF, decide_eq_true_eq, Bool.not_eq_true', Bool.not_eq_false', hv', dshw8]
    refine ⟨Nat.le_refl _, shape_ok fun i _ => rfl, Nat.le_refl _, shape_ok fun i _ => rfl, hf, fun _ => ⟨e, hC, .inl ⟨he, rfl⟩⟩, fun hx => absurd hx he⟩
  · have hv' : AF.val (dshA a0 a1 a2 a3 a4 a5 (fun i => a6 i) (fun i => a7 i) a8 (fun i => a9 i) (fun i => a10 i) (fun i => a11 i) (fun i => a12 i)) = .r1 a0 a1 a2 a3 a4 a5 a8 (PS a9 a8) := hv
    have bad : ¬ (0 ≤ a13 ∧ a13 < PS a9 a8) → ReaE a0 a1 a2 a3 a4 a5 a6 a7 a8 a9 a10 a11 a12 a13 (0, 3) := fun hb => ⟨0, hC, .inr ⟨rfl, .inl ⟨hb, rfl⟩⟩⟩
    have job := hC.job
    have r0 := PS_rng job.pc a8 (Nat.le_refl _)
    have few := job.few
    have es : Ar.run .sub .i64 (PS a9 a8) 1 = PS a9 a8 - 1 := arSub (by omega)
    simp only [DD.sat, Nat.zero_add, cmLss, cmLssF, cmLeq, cmLeqF, cmGtr, cmGtrF, cmGeq, cmGeqF, cmEql, cmEqlF, cmNeq, cmNeqF, decide_eq_true_eq, Bool.not_eq_true', Bool.not_eq_false', hv', dshw0, dshw1, dshw2, dshw3, dshw4, dshw5, dshw6, dshw7, dshw8, es]
    refine ⟨Nat.le_refl _, shape_ok fun i _ => rfl, Nat.le_refl _, shape_ok fun i _ => rfl, hf, fun hx => absurd rfl hx, fun _ => ⟨fun h => bad (by omega), fun h1 => ⟨fun h => bad (by omega), fun h2 => ?_⟩⟩⟩
    obtain ⟨rf, x, y, z, rv, hR⟩ := drc_gen (a0 := a0) (a13 := PS a9 a8) (a14 := -10000000000) (a15 := 20000000000) (a16 := a13) (a17 := PS a9 a8) job (by omega) (by omega) (by omega)
    have rv' : AF.val (drcA a0 a1 a2 a3 a4 a5 (fun i => a6 i) (fun i => a7 i) a8 (fun i => a9 i) (fun i => a10 i) (fun i => a11 i) (fun i => a12 i) (PS a9 a8) (-10000000000) 20000000000 a13 (PS a9 a8)) = _ := rv
    obtain ⟨J, hJ, rfl, _⟩ := rj_of job h1 (by omega) hR
    simp only [rv']
    exact ⟨Nat.le_refl _, shape_ok fun i _ => rfl, Nat.le_refl _, shape_ok fun i _ => rfl, rf, 0, hC, .inr ⟨rfl, .inr ⟨by omega, J, hJ, rfl⟩⟩⟩
/-- No plan: it gets stuck. -/
def Stk (T : Int) (lo hi : Int → Nat → Int) : Prop := ∃ k f F G, Chn T lo hi k f F G ∧ f < T ∧ RJ T lo hi f 0
theorem Stk.no {T : Int} {lo hi : Int → Nat → Int} {k : Nat} {F G : Nat → Int} (m : Narr lo hi) (h : Stk T lo hi) (h' : Chn T lo hi k T F G) : False := by
  obtain ⟨k, f, F', G', a, b, c⟩ := h
  exact h'.stuck m a b c
def DpsS (T : Int) (lo hi : Int → Nat → Int) : dpls0R → Prop
  | .r0 => RJ T lo hi 0 0
  | .r1 q0 q1 q2 q3 => Chn T lo hi q0 q1 q2 q3 ∧ (q1 = T ∨ q1 < T ∧ RJ T lo hi q1 0)
theorem bif_lt {i k : Nat} {x y : Int} (h : i < k) : (bif Nat.blt i k then x else y) = x := by
  have : Nat.blt i k = true := by rw [Nat.blt_eq]; exact h
  rw [this]; rfl
theorem bif_ge {k : Nat} {x y : Int} : (bif Nat.blt k k then x else y) = y := by
  have : Nat.blt k k = false := by
    cases h : Nat.blt k k with
    | false => rfl
    | true =>
      rw [Nat.blt_eq] at h
      exact absurd h (Nat.lt_irrefl _)
  rw [this]; rfl
theorem dps_gen (h : JobOk a1 a2 a3 a4 a5 a6 a7 a8 a9 a10 a11 a12) (hT : 0 < PS a9 a8) (h3 : PS a9 a8 ≤ 10000) : ∃ n v, AF.run (dpls0A a0 a1 a2 a3 a4 a5 a6 a7 a8 a9 a10 a11 a12 a0 a1 a2 a3 a4 a5 a8 (PS a9 a8)) n = some v ∧ DpsS (PS a9 a8) (loJ a0 a1 a3 a6 a7 a8 a9 a10 a11) (hiJ a0 a2 a4 a6 a7 a8 a9 a10 a12) v := by
  have step : ∀ q, 0 ≤ q → q < PS a9 a8 → AF.fin (drcA a0 a1 a2 a3 a4 a5 a6 a7 a8 a9 a10 a11 a12 (PS a9 a8) (-10000000000) 20000000000 q (PS a9 a8)) = true ∧ ∃ x y z, AF.val (drcA a0 a1 a2 a3 a4 a5 (fun i => a6 i) (fun i => a7 i) a8 (fun i => a9 i) (fun i => a10 i) (fun i => a11 i) (fun i => a12 i) (PS a9 a8) (-10000000000) 20000000000 q (PS a9 a8)) = (x, y, z) ∧ ∃ J : Nat, RJ (PS a9 a8) (loJ a0 a1 a3 a6 a7 a8 a9 a10 a11) (hiJ a0 a2 a4 a6 a7 a8 a9 a10 a12) q J ∧ z = q + J ∧ (0 < J → x = (loJ a0 a1 a3 a6 a7 a8 a9 a10 a11) q J ∧ y = (hiJ a0 a2 a4 a6 a7 a8 a9 a10 a12) q J) := fun q q0 q1 => by
    obtain ⟨rf, x, y, z, rv, hR⟩ := drc_gen (a0 := a0) (a13 := PS a9 a8) (a14 := -10000000000) (a15 := 20000000000) (a16 := q) (a17 := PS a9 a8) h q0 (by omega) (Int.le_refl _)
    exact ⟨rf, x, y, z, rv, rj_of h q0 q1 hR⟩
  refine AF.run_sat (E := DpsS (PS a9 a8) (loJ a0 a1 a3 a6 a7 a8 a9 a10 a11) (hiJ a0 a2 a4 a6 a7 a8 a9 a10 a12)) (Inv := fun b => match b with | .n0 => True | .n1 q0 q1 q2 q3 => Chn (PS a9 a8) (loJ a0 a1 a3 a6 a7 a8 a9 a10 a11) (hiJ a0 a2 a4 a6 a7 a8 a9 a10 a12) q1 q0 q2 q3 ∧ 0 ≤ q0 ∧ q0 ≤ PS a9 a8)
    (fun b => match b with | .n0 => (PS a9 a8).toNat + 1 | .n1 q0 q1 q2 q3 => (PS a9 a8 - q0).toNat) (fun b => rfl) (fun a hI => ?_) ?_
  · cases a with
    | n0 =>
      show DD.sat _ _ (dpls0D a0 a1 a2 a3 a4 a5 a6 a7 a8 a9 a10 a11 a12 a0 a1 a2 a3 a4 a5 a8 (PS a9 a8) .n0)
      unfold dpls0D
      obtain ⟨rf, x, y, z, rv, J, hJ, hz, hxy⟩ := step 0 (Int.le_refl _) hT
      obtain rfl : z = J := by omega
      simp only [DD.sat, Nat.zero_add, cmLss, cmLssF, cmLeq, cmLeqF, cmGtr, cmGtrF, cmGeq, cmGeqF, cmEql, cmEqlF, cmNeq, cmNeqF, decide_eq_true_eq, Bool.not_eq_true', Bool.not_eq_false', rv]
      refine ⟨fun _ => ⟨Nat.le_refl _, shape_ok fun i _ => rfl, Nat.le_refl _, shape_ok fun i _ => rfl, rf, fun hj => ?_, fun hj => ⟨⟨?_, by omega, ?_⟩, ?_⟩⟩, fun hx => by omega⟩
      · obtain rfl : J = 0 := by omega
        exact hJ
      · have e := (hxy (by omega)).1
        subst e
        have c := (Chn.nil (F := fun _ => 0) (G := fun _ => 0)).next (F' := fun _ => 0) (G' := fun _ => (loJ a0 a1 a3 a6 a7 a8 a9 a10 a11) 0 J) hJ (by omega) (fun _ _ => rfl) (fun i hi => by omega) rfl rfl
        rw [Int.zero_add] at c
        exact c
      · have := hJ.1; omega
      · omega
    | n1 q0 q1 q2 q3 =>
      obtain ⟨c, g0, g1⟩ := hI
      have cl := c.len
      show DD.sat _ _ (dpls0D a0 a1 a2 a3 a4 a5 a6 a7 a8 a9 a10 a11 a12 a0 a1 a2 a3 a4 a5 a8 (PS a9 a8) (.n1 q0 q1 q2 q3))
      unfold dpls0D
      by_cases hq : q0 < PS a9 a8
      · obtain ⟨rf, x, y, z, rv, J, hJ, rfl, hxy⟩ := step q0 g0 hq
        simp only [DD.sat, Nat.zero_add, cmLss, cmLssF, cmLeq, cmLeqF, cmGtr, cmGtrF, cmGeq, cmGeqF, cmEql, cmEqlF, cmNeq, cmNeqF, decide_eq_true_eq, Bool.not_eq_true', Bool.not_eq_false', rv]
        refine ⟨fun _ => ⟨Nat.le_refl _, shape_ok fun i _ => rfl, Nat.le_refl _, shape_ok fun i _ => rfl, rf, fun hj => ⟨c, .inr ⟨hq, ?_⟩⟩, fun hj => ⟨Nat.le_refl _, by omega, ⟨?_, by omega, ?_⟩, ?_⟩⟩, fun hx => by omega⟩
        · obtain rfl : J = 0 := by omega
          exact hJ
        · have e := (hxy (by omega)).1
          subst e
          exact c.next hJ (by omega) (fun i hi => bif_lt hi) (fun i hi => bif_lt hi) bif_ge bif_ge
        · have := hJ.1; omega
        · have := hJ.1; omega
      · simp only [DD.sat, Nat.zero_add, cmLss, cmLssF, cmLeq, cmLeqF, cmGtr, cmGtrF, cmGeq, cmGeqF, cmEql, cmEqlF, cmNeq, cmNeqF, decide_eq_true_eq, Bool.not_eq_true', Bool.not_eq_false']
        exact ⟨fun hx => by omega, fun _ => ⟨c, .inl (by omega)⟩⟩
  · show True
    trivial
/-- What Plan yields. -/
def PlnE (a0 : Bool) (a1 a2 a3 a4 : Int) (a5 : Nat) (a6 a7 : Nat → Int) (a8 : Nat) (a9 a10 a11 a12 : Nat → Int) (v : dplR) : Prop :=
  ∃ e, CkS a5 a8 (ToolOk a5 a6 a7 a1 a2 a3 a4) a9 a10 a11 a12 e ∧ (e ≠ 0 ∧ v = .r0 e ∨ e = 0 ∧ (Stk (PS a9 a8) (loJ a0 a1 a3 a6 a7 a8 a9 a10 a11) (hiJ a0 a2 a4 a6 a7 a8 a9 a10 a12) ∧ v = .r0 7 ∨ ∃ k F G, Chn (PS a9 a8) (loJ a0 a1 a3 a6 a7 a8 a9 a10 a11) (hiJ a0 a2 a4 a6 a7 a8 a9 a10 a12) k (PS a9 a8) F G ∧ v = .r1 k F G))
theorem dpl_mono : AF.Mono (dplA a0 a1 a2 a3 a4 a5 a6 a7 a8 a9 a10 a11 a12) := AF.mono_map fun a => by
  cases a with
  | n0 p0 p1 p2 p3 p4 p5 p6 p7 => exact .inr ⟨_, _, _, _, AF.mono_none (fun _ => rfl), rfl⟩
theorem JobOk.pos (h : CkS a5 a8 (ToolOk a5 a6 a7 a1 a2 a3 a4) a9 a10 a11 a12 0) : 0 < PS a9 a8 := by
  have := h.ok.2.2.1
  have := PS_rng h.job.pc a8 (Nat.le_refl _)
  omega
theorem dpl_val (hn : a5 ≤ 10000) (hm : a8 ≤ 10000) (hp : CkS a5 a8 (ToolOk a5 a6 a7 a1 a2 a3 a4) a9 a10 a11 a12 0 → PS a9 a8 ≤ 10000) : AF.fin (dplA a0 a1 a2 a3 a4 a5 a6 a7 a8 a9 a10 a11 a12) = true ∧ PlnE a0 a1 a2 a3 a4 a5 a6 a7 a8 a9 a10 a11 a12 (AF.val (dplA a0 a1 a2 a3 a4 a5 a6 a7 a8 a9 a10 a11 a12)) := by
  obtain ⟨hf, e, hC, hv⟩ := dsh_val (a0 := a0) (a1 := a1) (a2 := a2) (a3 := a3) (a4 := a4) (a5 := a5) (a6 := a6) (a7 := a7) (a8 := a8) (a9 := a9) (a10 := a10) (a11 := a11) (a12 := a12) hn hm
  refine AF.val_satR (A := dplA a0 a1 a2 a3 a4 a5 a6 a7 a8 a9 a10 a11 a12) (E := PlnE a0 a1 a2 a3 a4 a5 a6 a7 a8 a9 a10 a11 a12) (Inv := fun b => match b with | .n0 p0 p1 p2 p3 p4 p5 p6 p7 => (p0 = a0 ∧ p1 = a1 ∧ p2 = a2 ∧ p3 = a3 ∧ p4 = a4 ∧ p5 = a5 ∧ p6 = a8 ∧ p7 = PS a9 a8) ∧ e = 0) dpl_mono (fun _ => 0) (fun a hI => .inr ?_) ?_
  · cases a with
    | n0 p0 p1 p2 p3 p4 p5 p6 p7 =>
      obtain ⟨⟨rfl, rfl, rfl, rfl, rfl, rfl, rfl, rfl⟩, rfl⟩ := hI
      obtain ⟨n, v, hv, hE⟩ := dps_gen (a0 := p0) hC.job (JobOk.pos hC) (hp hC)
      refine ⟨_, n, dplRg0 p0 p1 p2 p3 p4 p5 a6 a7 p6 a9 a10 a11 a12 p0 p1 p2 p3 p4 p5 p6 (PS a9 p6) v, rfl, ?_, ?_⟩
      · show Option.map _ (AF.run _ n) = _
        rw [hv]; rfl
      · cases v with
        | r0 =>
          unfold dplRg0
          simp only [DD.sat, Nat.zero_add, cmLss, cmLssF, cmLeq, cmLeqF, cmGtr, cmGtrF, cmGeq, cmGeqF, cmEql, cmEqlF, cmNeq, cmNeqF, decide_eq_true_eq, Bool.not_eq_true', Bool.not_eq_false']
          exact ⟨fun hx => ⟨0, hC, .inr ⟨rfl, .inl ⟨⟨0, 0, fun _ => 0, fun _ => 0, Chn.nil, hx, hE⟩, rfl⟩⟩⟩, fun hx => by have := JobOk.pos hC; omega⟩
        | r1 q0 q1 q2 q3 =>
          obtain ⟨c, hq⟩ := hE
          unfold dplRg0
          simp only [DD.sat, Nat.zero_add, cmLss, cmLssF, cmLeq, cmLeqF, cmGtr, cmGtrF, cmGeq, cmGeqF, cmEql, cmEqlF, cmNeq, cmNeqF, decide_eq_true_eq, Bool.not_eq_true', Bool.not_eq_false']
          refine ⟨fun hx => ⟨0, hC, .inr ⟨rfl, .inl ⟨⟨q0, q1, q2, q3, c, hx, ?_⟩, rfl⟩⟩⟩, fun hx => ⟨0, hC, .inr ⟨rfl, .inr ⟨q0, q2, q3, ?_, rfl⟩⟩⟩⟩
          · rcases hq with hq | ⟨_, hq⟩
            · omega
            · exact hq
          · rcases hq with rfl | ⟨hq, _⟩
            · exact c
            · omega
  · show DD.sat _ _ (dplD0 a0 a1 a2 a3 a4 a5 a6 a7 a8 a9 a10 a11 a12)
    unfold dplD0
    rcases hv with ⟨he, hv⟩ | ⟨rfl, hv⟩
    · have hv' : AF.val (dshA a0 a1 a2 a3 a4 a5 (fun i => a6 i) (fun i => a7 i) a8 (fun i => a9 i) (fun i => a10 i) (fun i => a11 i) (fun i => a12 i)) = .r0 e := hv
      simp only [DD.sat, Nat.zero_add, cmLss, cmLssF, cmLeq, cmLeqF, cmGtr, cmGtrF, cmGeq, cmGeqF, cmEql, cmEqlF, cmNeq, cmNeqF, decide_eq_true_eq, Bool.not_eq_true', Bool.not_eq_false', hv', dshw8]
      refine ⟨Nat.le_refl _, shape_ok fun i _ => rfl, Nat.le_refl _, shape_ok fun i _ => rfl, hf, fun _ => ⟨e, hC, .inl ⟨he, rfl⟩⟩, fun hx => absurd hx he⟩
    · have hv' : AF.val (dshA a0 a1 a2 a3 a4 a5 (fun i => a6 i) (fun i => a7 i) a8 (fun i => a9 i) (fun i => a10 i) (fun i => a11 i) (fun i => a12 i)) = .r1 a0 a1 a2 a3 a4 a5 a8 (PS a9 a8) := hv
      simp only [DD.sat, Nat.zero_add, cmLss, cmLssF, cmLeq, cmLeqF, cmGtr, cmGtrF, cmGeq, cmGeqF, cmEql, cmEqlF, cmNeq, cmNeqF, decide_eq_true_eq, Bool.not_eq_true', Bool.not_eq_false', hv', dshw0, dshw1, dshw2, dshw3, dshw4, dshw5, dshw6, dshw7, dshw8]
      refine ⟨Nat.le_refl _, shape_ok fun i _ => rfl, Nat.le_refl _, shape_ok fun i _ => rfl, hf, fun hx => absurd rfl hx, fun _ => (by repeat' (first | trivial | omega | apply And.intro))⟩
/-- What the reference's Plan yields. -/
def RplE (T : Int) (lo hi : Int → Nat → Int) (v : rdpR) : Prop := Stk T lo hi ∧ v = .r1 ∨ ∃ k F G, Chn T lo hi k T F G ∧ v = .r2 k F G
theorem rdp_val (h : JobOk a1 a2 a3 a4 a5 a6 a7 a8 a9 a10 a11 a12) (hT : 0 < PS a9 a8) (h3 : PS a9 a8 ≤ 10000) : AF.fin (rdpA a0 a1 a2 a3 a4 a5 a6 a7 a8 a9 a10 a11 a12) = true ∧ RplE (PS a9 a8) (loJ a0 a1 a3 a6 a7 a8 a9 a10 a11) (hiJ a0 a2 a4 a6 a7 a8 a9 a10 a12) (AF.val (rdpA a0 a1 a2 a3 a4 a5 a6 a7 a8 a9 a10 a11 a12)) := by
  obtain ⟨af, av⟩ := rda_val (a0 := a8) (a1 := a9) (a2 := a10) (a3 := a11) (a4 := a12) h.few h.pc
  have avE : AF.val (rdaA a8 (fun i => a9 i) (fun i => a10 i) (fun i => a11 i) (fun i => a12 i)) = _ := av
  have step : ∀ q, 0 ≤ q → q < PS a9 a8 → AF.fin (rdrA a0 a1 a2 a3 a4 a5 a6 a7 a8 a9 a10 a11 a12 q) = true ∧ ∃ J : Nat, AF.val (rdrA a0 a1 a2 a3 a4 a5 (fun i => a6 i) (fun i => a7 i) a8 (fun i => a9 i) (fun i => a10 i) (fun i => a11 i) (fun i => a12 i) q) = ((q + (J : Int) : Int)) ∧ RJ (PS a9 a8) (loJ a0 a1 a3 a6 a7 a8 a9 a10 a11) (hiJ a0 a2 a4 a6 a7 a8 a9 a10 a12) q J ∧ (AF.fin (rdtA a0 a1 a2 a3 a4 a5 a6 a7 a8 a9 a10 a11 a12 q (q + J)) = true ∧ AF.val (rdtA a0 a1 a2 a3 a4 a5 (fun i => a6 i) (fun i => a7 i) a8 (fun i => a9 i) (fun i => a10 i) (fun i => a11 i) (fun i => a12 i) q (q + J)) = ((loJ a0 a1 a3 a6 a7 a8 a9 a10 a11) q J, (hiJ a0 a2 a4 a6 a7 a8 a9 a10 a12) q J)) := fun q q0 q1 => by
    obtain ⟨rf, J, hJ, rv⟩ := rdr_val (a0 := a0) h q0 q1
    have b := hJ.1
    have t := rdt_val (a0 := a0) (a13 := q) (a14 := q + J) h q0 (by omega) (by omega)
    rw [show (q + J - q).toNat = J by omega] at t
    exact ⟨rf, J, rv, hJ, t⟩
  refine AF.val_sat (E := RplE (PS a9 a8) (loJ a0 a1 a3 a6 a7 a8 a9 a10 a11) (hiJ a0 a2 a4 a6 a7 a8 a9 a10 a12)) (Inv := fun b => match b with | .n0 => True | .n1 p0 p1 p2 p3 => Chn (PS a9 a8) (loJ a0 a1 a3 a6 a7 a8 a9 a10 a11) (hiJ a0 a2 a4 a6 a7 a8 a9 a10 a12) p0 p1 p2 p3 ∧ 0 ≤ p1 ∧ p1 ≤ PS a9 a8)
    (fun b => match b with | .n0 => (PS a9 a8).toNat + 1 | .n1 p0 p1 p2 p3 => (PS a9 a8 - p1).toNat) (fun b => rfl) (fun a hI => ?_) ?_
  · cases a with
    | n0 =>
      show DD.sat _ _ (rdpD a0 a1 a2 a3 a4 a5 a6 a7 a8 a9 a10 a11 a12 .n0)
      unfold rdpD
      obtain ⟨rf, J, rv, hJ, tf, tv⟩ := step 0 (Int.le_refl _) hT
      rw [Int.zero_add] at rv tf tv
      simp only [DD.sat, Nat.zero_add, cmLss, cmLssF, cmLeq, cmLeqF, cmGtr, cmGtrF, cmGeq, cmGeqF, cmEql, cmEqlF, cmNeq, cmNeqF, decide_eq_true_eq, Bool.not_eq_true', Bool.not_eq_false', avE, rv, tv]
      refine ⟨Nat.le_refl _, shape_ok fun i _ => rfl, af, fun _ => ⟨Nat.le_refl _, shape_ok fun i _ => rfl, Nat.le_refl _, shape_ok fun i _ => rfl, rf, fun hj => .inl ⟨⟨0, 0, fun _ => 0, fun _ => 0, Chn.nil, hT, ?_⟩, rfl⟩, fun hj => ⟨Nat.le_refl _, shape_ok fun i _ => rfl, Nat.le_refl _, shape_ok fun i _ => rfl, tf, ⟨?_, by omega, ?_⟩, ?_⟩⟩, fun hx => by omega⟩
      · obtain rfl : J = 0 := by omega
        exact hJ
      · have c := (Chn.nil (F := fun _ => 0) (G := fun _ => 0)).next (F' := fun _ => 0) (G' := fun _ => (loJ a0 a1 a3 a6 a7 a8 a9 a10 a11) 0 J) hJ (by omega) (fun _ _ => rfl) (fun i hi => by omega) rfl rfl
        rw [Int.zero_add] at c
        exact c
      · have := hJ.1; omega
      · omega
    | n1 p0 p1 p2 p3 =>
      obtain ⟨c, g0, g1⟩ := hI
      have cl := c.len
      show DD.sat _ _ (rdpD a0 a1 a2 a3 a4 a5 a6 a7 a8 a9 a10 a11 a12 (.n1 p0 p1 p2 p3))
      unfold rdpD
      by_cases hq : p1 < PS a9 a8
      · obtain ⟨rf, J, rv, hJ, tf, tv⟩ := step p1 g0 hq
        simp only [DD.sat, Nat.zero_add, cmLss, cmLssF, cmLeq, cmLeqF, cmGtr, cmGtrF, cmGeq, cmGeqF, cmEql, cmEqlF, cmNeq, cmNeqF, decide_eq_true_eq, Bool.not_eq_true', Bool.not_eq_false', avE, rv, tv]
        refine ⟨Nat.le_refl _, shape_ok fun i _ => rfl, af, fun _ => ⟨Nat.le_refl _, shape_ok fun i _ => rfl, Nat.le_refl _, shape_ok fun i _ => rfl, rf, fun hj => .inl ⟨⟨p0, p1, p2, p3, c, hq, ?_⟩, rfl⟩, fun hj => ⟨Nat.le_refl _, shape_ok fun i _ => rfl, Nat.le_refl _, shape_ok fun i _ => rfl, tf, Nat.le_refl _, by omega, ⟨?_, by omega, ?_⟩, ?_⟩⟩, fun hx => by omega⟩
        · obtain rfl : J = 0 := by omega
          exact hJ
        · exact c.next hJ (by omega) (fun i hi => bif_lt hi) (fun i hi => bif_lt hi) bif_ge bif_ge
        · have := hJ.1; omega
        · have := hJ.1; omega
      · simp only [DD.sat, Nat.zero_add, cmLss, cmLssF, cmLeq, cmLeqF, cmGtr, cmGtrF, cmGeq, cmGeqF, cmEql, cmEqlF, cmNeq, cmNeqF, decide_eq_true_eq, Bool.not_eq_true', Bool.not_eq_false', avE]
        refine ⟨Nat.le_refl _, shape_ok fun i _ => rfl, af, fun hx => by omega, fun _ => .inr ⟨p0, p2, p3, ?_, rfl⟩⟩
        obtain rfl : p1 = PS a9 a8 := by omega
        exact c
  · show True
    trivial
end
end Go.Proofs.Ythagjhadjpangaa.Cx

/- Package die: settings that go as far as they can make the most pieces sure, in plain Lean. -/
namespace Go.Proofs.Ythagjhadjpangaa.Cx
set_option linter.unusedVariables false
set_option linter.unusedSimpArgs false
set_option maxRecDepth 100000
set_option maxHeartbeats 4000000
open Go Go.RowKit
/-- There is a target for the pieces from f to n - 1. -/
def CanP (lo hi : Int → Nat → Int) (f n : Int) : Prop := lo f (n - f).toNat ≤ hi f (n - f).toNat
/-- What one setting makes sure it does also if it begins later; it goes somewhere from each piece. -/
structure Late (T : Int) (lo hi : Int → Nat → Int) : Prop where
  narr : Narr lo hi
  late : ∀ f f' n, 0 ≤ f → f ≤ f' → f' < n → n ≤ T → CanP lo hi f n → CanP lo hi f' n
  ex : ∀ f, 0 ≤ f → f < T → ∃ J, RJ T lo hi f J
open Classical in
noncomputable def JO (T : Int) (lo hi : Int → Nat → Int) (f : Int) : Nat := if h : ∃ J, RJ T lo hi f J then h.choose else 0
noncomputable def GE (T : Int) (lo hi : Int → Nat → Int) : Nat → Int
  | 0 => 0
  | k + 1 => GE T lo hi k + JO T lo hi (GE T lo hi k)
section
variable {T : Int} {lo hi : Int → Nat → Int}
theorem JO_spec (m : Late T lo hi) {f : Int} (h0 : 0 ≤ f) (h1 : f ≤ T) : RJ T lo hi f (JO T lo hi f) := by
  have e : ∃ J, RJ T lo hi f J := by
    by_cases h : f < T
    · exact m.ex f h0 h
    · exact ⟨0, by omega, fun hx => by omega, fun hx => by omega⟩
  unfold JO
  rw [dif_pos e]
  exact e.choose_spec
theorem JO_of (m : Late T lo hi) {f : Int} (h0 : 0 ≤ f) (h1 : f ≤ T) {J : Nat} (h : RJ T lo hi f J) : JO T lo hi f = J := (JO_spec m h0 h1).uniq m.narr h
theorem GE_rng (m : Late T lo hi) (hT : 0 ≤ T) : ∀ k, 0 ≤ GE T lo hi k ∧ GE T lo hi k ≤ T
  | 0 => by rw [GE]; omega
  | k + 1 => by
    have a := GE_rng m hT k
    have b := (JO_spec m a.1 a.2).1
    rw [GE]
    omega
theorem GE_mono (m : Late T lo hi) {i : Nat} : ∀ j, i ≤ j → GE T lo hi i ≤ GE T lo hi j
  | 0, h => by
    obtain rfl : i = 0 := by omega
    exact Int.le_refl _
  | j + 1, h => by
    by_cases he : i = j + 1
    · rw [he]; exact Int.le_refl _
    · have := GE_mono m (i := i) j (by omega)
      rw [GE]
      omega
theorem can_iff (m : Late T lo hi) {f n : Int} (h0 : 0 ≤ f) (h1 : f < n) (h2 : n ≤ T) : CanP lo hi f n ↔ n ≤ f + JO T lo hi f := by
  have s := JO_spec m h0 (Int.le_of_lt (Int.lt_of_lt_of_le h1 h2))
  unfold CanP
  constructor
  · intro hc
    refine Int.not_lt.1 fun hx => ?_
    have a := s.2.1 (by omega)
    have b := m.narr.lo f (JO T lo hi f + 1) (n - f).toNat (by omega)
    have c := m.narr.hi f (JO T lo hi f + 1) (n - f).toNat (by omega)
    omega
  · intro hx
    have a := s.2.2 (by omega)
    have b := m.narr.lo f (n - f).toNat (JO T lo hi f) (by omega)
    have c := m.narr.hi f (n - f).toNat (JO T lo hi f) (by omega)
    omega
theorem GE_stuck (m : Late T lo hi) {k : Nat} (h : JO T lo hi (GE T lo hi k) = 0) : ∀ d, GE T lo hi (k + d) = GE T lo hi k
  | 0 => rfl
  | d + 1 => by
    rw [show k + (d + 1) = (k + d) + 1 by omega, GE, GE_stuck m h d, h]
    omega
/-- With how few settings the first pieces can be sure, for all numbers of pieces below n. -/
def FewS (T : Int) (lo hi : Int → Nat → Int) (n : Nat) (out : Nat → Int) : Prop :=
  ∀ j, j < n → (0 ≤ out j ∧ out j ≤ 1000000) ∧ ∀ k : Nat, k < 1000000 → (out j ≤ k ↔ (j : Int) ≤ GE T lo hi k)
/-- The best of the last settings from p on. -/
def BestS (lo hi : Int → Nat → Int) (n : Nat) (out : Nat → Int) (p : Int) (best : Int) : Prop :=
  (0 ≤ best ∧ best ≤ 1000000) ∧ (∀ f : Nat, p < f → f < n → out f < 1000000 → CanP lo hi f n → best ≤ out f + 1) ∧ (best = 1000000 ∨ ∃ f : Nat, f < n ∧ out f < 1000000 ∧ CanP lo hi f n ∧ best = out f + 1)
theorem few_next (m : Late T lo hi) (hT : 0 ≤ T) {n : Nat} {out : Nat → Int} {best : Int} (h0 : 0 < n) (h1 : (n : Int) ≤ T) (hF : FewS T lo hi n out) (hB : BestS lo hi n out (-1) best) : ∀ k : Nat, k < 1000000 → (best ≤ k ↔ (n : Int) ≤ GE T lo hi k) := by
  obtain ⟨b0, b1, b2⟩ := hB
  have back : ∀ k : Nat, k < 1000000 → (n : Int) ≤ GE T lo hi k → best ≤ k := by
    intro k
    induction k with
    | zero => intro _ h; rw [GE] at h; omega
    | succ k ih =>
      intro hk h
      by_cases hn : (n : Int) ≤ GE T lo hi k
      · have := ih (by omega) hn
        omega
      · have r := GE_rng m hT k
        have e : (((GE T lo hi k).toNat : Nat) : Int) = GE T lo hi k := Int.toNat_of_nonneg r.1
        have f := (hF (GE T lo hi k).toNat (by omega)).2 k (by omega)
        have c := (can_iff m r.1 (by omega) h1).2 (by rw [GE] at h; exact h)
        have fb := f.2 (by omega)
        have q := b1 (GE T lo hi k).toNat (by omega) (by omega) (by omega) (by rw [e]; exact c)
        omega
  intro k hk
  refine ⟨fun h => ?_, back k hk⟩
  rcases b2 with b2 | ⟨f, f1, f2, f3, f4⟩
  · omega
  · have a := hF f f1
    obtain ⟨j, rfl⟩ : ∃ j, k = j + 1 := ⟨k - 1, by omega⟩
    have g := (a.2 j (by omega)).1 (by omega)
    have mo := GE_mono m (i := j) (j + 1) (by omega)
    by_cases hn : (n : Int) ≤ GE T lo hi j
    · omega
    · have r := GE_rng m hT j
      have c := m.late f (GE T lo hi j) n (by omega) g (by omega) h1 f3
      rw [GE]
      exact (can_iff m r.1 (by omega) h1).1 c
end
end Go.Proofs.Ythagjhadjpangaa.Cx

/- Package die: what one setting makes sure it does also if it begins later. -/
namespace Go.Proofs.Ythagjhadjpangaa.Cx
set_option linter.unusedVariables false
set_option linter.unusedSimpArgs false
set_option maxRecDepth 100000
set_option maxHeartbeats 4000000
open Go Go.RowKit
theorem LoM_le {t x : Int} {tl : Nat → Int} : ∀ m, LoM t tl m ≤ x ↔ t ≤ x ∧ ∀ j, j < m → tl j ≤ x
  | 0 => ⟨fun h => ⟨h, fun j hj => by omega⟩, fun h => h.1⟩
  | m + 1 => by
    rw [LoM]
    have := LoM_le (t := t) (x := x) (tl := tl) m
    constructor
    · intro h
      have a := this.1 (by omega)
      refine ⟨a.1, fun j hj => ?_⟩
      by_cases he : j < m
      · exact a.2 j he
      · obtain rfl : j = m := by omega
        omega
    · rintro ⟨h1, h2⟩
      have a := this.2 ⟨h1, fun j hj => h2 j (by omega)⟩
      have b := h2 m (by omega)
      omega
theorem HiM_ge {t x : Int} {th : Nat → Int} : ∀ m, x ≤ HiM t th m ↔ x ≤ t ∧ ∀ j, j < m → x ≤ th j
  | 0 => ⟨fun h => ⟨h, fun j hj => by omega⟩, fun h => h.1⟩
  | m + 1 => by
    rw [HiM]
    have := HiM_ge (t := t) (x := x) (th := th) m
    constructor
    · intro h
      have a := this.1 (by omega)
      refine ⟨a.1, fun j hj => ?_⟩
      by_cases he : j < m
      · exact a.2 j he
      · obtain rfl : j = m := by omega
        omega
    · rintro ⟨h1, h2⟩
      have a := this.2 ⟨h1, fun j hj => h2 j (by omega)⟩
      have b := h2 m (by omega)
      omega
theorem can_pairs {t t' : Int} {tl th : Nat → Int} {m : Nat} (h0 : t ≤ t') (h1 : ∀ j, j < m → tl j ≤ t') (h2 : ∀ j, j < m → t ≤ th j) : LoM t tl m ≤ HiM t' th m ↔ ∀ i j, i < m → j < m → tl i ≤ th j := by
  rw [LoM_le]
  constructor
  · rintro ⟨a, b⟩ i j hi hj
    exact ((HiM_ge m).1 (b i hi)).2 j hj
  · intro h
    exact ⟨(HiM_ge m).2 ⟨h0, h2⟩, fun i hi => (HiM_ge m).2 ⟨h1 i hi, fun j hj => h i j hi hj⟩⟩
theorem WSum_split {g : Int → Int} {f : Int} {d : Nat} : ∀ j, WSum g f (d + j) = WSum g f d + WSum g (f + d) j
  | 0 => by rw [Nat.add_zero, WSum, Int.add_zero]
  | j + 1 => by
    rw [show d + (j + 1) = (d + j) + 1 by omega, WSum, WSum, WSum_split j]
    rw [show f + ((d + j : Nat) : Int) = f + d + j by omega]
    omega
theorem WSum_le {g g' : Int → Int} {f : Int} : ∀ j : Nat, (∀ i : Nat, i < j → g (f + i) ≤ g' (f + i)) → WSum g f j ≤ WSum g' f j
  | 0, _ => Int.le_refl _
  | j + 1, h => by
    have a := WSum_le (g := g) (g' := g') (f := f) j (fun i hi => h i (by omega))
    have b := h j (by omega)
    rw [WSum, WSum]
    omega
section
variable {a0 : Bool} {a1 a2 a3 a4 : Int} {a5 : Nat} {a6 a7 : Nat → Int} {a8 : Nat} {a9 a10 a11 a12 : Nat → Int}
theorem JobOk.wle (h : JobOk a1 a2 a3 a4 a5 a6 a7 a8 a9 a10 a11 a12) {f : Int} {j : Nat} (h0 : 0 ≤ f) (h1 : f + j ≤ PS a9 a8) : WSum (gW a6 a10 a9 a8) f j ≤ WSum (gW a7 a10 a9 a8) f j := WSum_le j fun i hi => (h.at' (x := f + i) (by omega) (by omega)).2.2.2.2.1
theorem JobOk.tbd (h : JobOk a1 a2 a3 a4 a5 a6 a7 a8 a9 a10 a11 a12) {f : Int} {j : Nat} (h0 : 0 ≤ f) (h1 : f + j < PS a9 a8) : (-100000000000 ≤ tlP a0 a1 a3 a6 a7 a10 a9 a11 a8 f j ∧ tlP a0 a1 a3 a6 a7 a10 a9 a11 a8 f j ≤ 100000000000) ∧ (-100000000000 ≤ thP a0 a2 a4 a6 a7 a10 a9 a12 a8 f j ∧ thP a0 a2 a4 a6 a7 a10 a9 a12 a8 f j ≤ 100000000000) := by
  have w := h.wsum (f := f) (j := j) h0 (by omega)
  have t := (h.at' (x := f + j) (by omega) (by omega)).2.2.1
  obtain ⟨_, _, s1, s2⟩ := h.tool
  unfold VOk at s1 s2
  unfold tlP thP gL gH
  cases a0 <;> simp only [cond_true, cond_false] <;> omega
theorem JobOk.late (h : JobOk a1 a2 a3 a4 a5 a6 a7 a8 a9 a10 a11 a12) : Late (PS a9 a8) (loJ a0 a1 a3 a6 a7 a8 a9 a10 a11) (hiJ a0 a2 a4 a6 a7 a8 a9 a10 a12) := by
  refine ⟨narr, fun f f' n h0 h1 h2 h3 hc => ?_, fun f h0 h1 => ?_⟩
  · obtain ⟨d, rfl⟩ : ∃ d : Nat, f' = f + d := ⟨(f' - f).toNat, by omega⟩
    obtain ⟨m, rfl⟩ : ∃ m : Nat, n = f + d + m := ⟨(n - (f + d)).toNat, by omega⟩
    unfold CanP loJ hiJ at *
    rw [show (f + d + m - f).toNat = d + m by omega] at hc
    rw [show (f + d + m - (f + d)).toNat = m by omega]
    have b := fun j (hj : j < d + m) => h.tbd (a0 := a0) (f := f) (j := j) h0 (by omega)
    have b' := fun j (hj : j < m) => h.tbd (a0 := a0) (f := f + d) (j := j) (by omega) (by omega)
    rw [can_pairs (by omega) (fun j hj => by have := b j hj; omega) (fun j hj => by have := b j hj; omega)] at hc
    rw [can_pairs (by omega) (fun j hj => by have := b' j hj; omega) (fun j hj => by have := b' j hj; omega)]
    intro i j hi hj
    have q := hc (d + i) (d + j) (by omega) (by omega)
    have wl := h.wle (f := f) (j := d) h0 (by omega)
    have e1 : tlP a0 a1 a3 a6 a7 a10 a9 a11 a8 (f + d) i = tlP a0 a1 a3 a6 a7 a10 a9 a11 a8 f (d + i) + gL a0 (WSum (gW a6 a10 a9 a8) f d) (WSum (gW a7 a10 a9 a8) f d) := by
      unfold tlP gL
      rw [WSum_split, WSum_split, show f + d + (i : Int) = f + ((d + i : Nat) : Int) by omega]
      cases a0 <;> simp only [cond_true, cond_false] <;> omega
    have e2 : thP a0 a2 a4 a6 a7 a10 a9 a12 a8 (f + d) j = thP a0 a2 a4 a6 a7 a10 a9 a12 a8 f (d + j) + gH a0 (WSum (gW a6 a10 a9 a8) f d) (WSum (gW a7 a10 a9 a8) f d) := by
      unfold thP gH
      rw [WSum_split, WSum_split, show f + d + (j : Int) = f + ((d + j : Nat) : Int) by omega]
      cases a0 <;> simp only [cond_true, cond_false] <;> omega
    rw [e1, e2]
    unfold gL gH
    cases a0 <;> simp only [cond_true, cond_false] <;> omega
  · obtain ⟨_, J, hJ, _⟩ := rdr_val (a0 := a0) h h0 h1
    exact ⟨J, hJ⟩
end
end Go.Proofs.Ythagjhadjpangaa.Cx
