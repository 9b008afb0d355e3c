/- acme/die.Wear as an automaton. Made by tools/cxauto.py. -/
import Derived.Test.YthagjhadjpangaaPkDTurned5

namespace Go.Proofs.Ythagjhadjpangaa.Cx
set_option linter.unusedVariables false
set_option linter.unusedSimpArgs false
set_option maxRecDepth 100000
open Go Go.Proofs Go.RowKit
noncomputable abbrev dweCode : Code := funcCode Try.f18
noncomputable abbrev dwes0Code : Code := funcCode Try.f87
inductive dwes0N where
  | n0 (q0 q1 q2 q3 : Int)
inductive dwes0R where
  | r0 (q0 q1 : Int)
noncomputable def dwes0D0 (a0 : Bool) (a1 a2 a3 a4 : Int) (a5 : Nat) (a6 a7 : Nat → Int) (a8 : Nat) (a9 a10 a11 a12 : Nat → Int) (a13 a14 : Int) (p0 : Bool) (p1 p2 p3 p4 : Int) (p5 p6 : Nat) (p7 : Int) : DD (Lf dwes0N dwes0R) :=
 .leaf (.next (.n0 0 0 0 0) [])

noncomputable def dwes0D (a0 : Bool) (a1 a2 a3 a4 : Int) (a5 : Nat) (a6 a7 : Nat → Int) (a8 : Nat) (a9 a10 a11 a12 : Nat → Int) (a13 a14 : Int) (p0 : Bool) (p1 p2 p3 p4 : Int) (p5 p6 : Nat) (p7 : Int) : dwes0N → DD (Lf dwes0N dwes0R)
 | .n0 q0 q1 q2 q3 =>
 let z0 := Ar.run .add .i64 q0 (a9 (0 + Int.toNat q1))
 let z1 := Ar.run .sub .i64 (Ar.run .mn .i64 z0 a14) (Ar.run .mx .i64 q0 a13)
 let z2 := fun i => [CV.int IntKind.i64 (IE.x (a6 (0 + i))), CV.int IntKind.i64 (IE.x (a7 (0 + i)))]
 let z3 := fun i => [CV.int IntKind.i64 (IE.x (a9 (0 + i))), CV.int IntKind.i64 (IE.x (a10 (0 + i))), CV.int IntKind.i64 (IE.x (a11 (0 + i))), CV.int IntKind.i64 (IE.x (a12 (0 + i)))]
 let z4 := dwoA p0 p1 p2 p3 p4 p5 (fun i => a6 (0 + i)) (fun i => a7 (0 + i)) p6 (fun i => a9 (0 + i)) (fun i => a10 (0 + i)) (fun i => a11 (0 + i)) (fun i => a12 (0 + i)) p7 q2 q3 (a10 (0 + Int.toNat q1)) z1
 let z5 := Ar.run .add .i64 q1 1
 let z6 := AF.val z4
 .ask (Cm.run .lss q1 (↑p6 : Int))
   (.must (decide (0 ≤ q1))
   (.must (decide (q1 < (↑p6 : Int)))
   (.must (decide (0 + Int.toNat q1 < a8))
   (.ask (Cm.run .gtr z1 0)
   (.must (decide (0 + p5 ≤ a5))
   (.must (ShapeOk [some IntKind.i64, some IntKind.i64] (tabOf p5 z2) z2)
   (.must (decide (0 + p6 ≤ a8))
   (.must (ShapeOk [some IntKind.i64, some IntKind.i64, some IntKind.i64, some IntKind.i64] (tabOf p6 z3) z3)
   (.must (AF.fin z4)
   (.leaf (.next (.n0 z0 z5 (Prod.fst z6) (Prod.snd z6)) [])))))))
   (.leaf (.next (.n0 z0 z5 q2 q3) []))))))
   (.leaf (.done (.r0 q2 q3) []))

noncomputable def dwes0A (a0 : Bool) (a1 a2 a3 a4 : Int) (a5 : Nat) (a6 a7 : Nat → Int) (a8 : Nat) (a9 a10 a11 a12 : Nat → Int) (a13 a14 : Int) (p0 : Bool) (p1 p2 p3 p4 : Int) (p5 p6 : Nat) (p7 : Int) : AF dwes0N dwes0R where
  code := dwes0Code
  base := 9
  nt := 40
  m := 400
  un := []
  W := [4, 8]
  h0 := ((8, recB (mkT [(8, .ptr (some (2, 0))), (10, .ptr (some (3, 0))), (12, .ptr (some (4, 0))), (40, .fn (.func 87) [] [.ptr (some (5, 0)), .ptr (some (6, 0)), .ptr (some (7, 0))])]) 51 (rgP (codeAt dweCode [1, 1, 1, 1, 1, 0, 1, 0])) (rgA (codeAt dweCode [1, 1, 1, 1, 1, 0, 1, 0])) (rgB (codeAt dweCode [1, 1, 1, 1, 1, 0, 1, 0]))) :: (([(2, ⟨.lit [.int .i64 (.x 0), .int .i64 (.x 0)], 0, true, none⟩), (3, ⟨.lit [.bool (.x p0), .int .i64 (.x p1), .int .i64 (.x p2), .int .i64 (.x p3), .int .i64 (.x p4), .sla 0 2 0 p5, .sla 1 4 0 p6, .int .i64 (.x p7)], 0, true, none⟩), (4, ⟨.lit [.int .i64 (.x 0), .int .i64 (.x 0)], 0, true, none⟩), (5, ⟨.lit [.bool (.x p0), .int .i64 (.x p1), .int .i64 (.x p2), .int .i64 (.x p3), .int .i64 (.x p4), .sla 0 2 0 p5, .sla 1 4 0 p6, .int .i64 (.x p7)], 0, true, none⟩), (6, ⟨.lit [.int .i64 (.x a13)], 0, true, none⟩), (7, ⟨.lit [.int .i64 (.x a14)], 0, true, none⟩)] ++ []) ++ [(0, ⟨.arg a5 2 (fun i => [.int .i64 (.x (a6 i)), .int .i64 (.x (a7 i))]) (fun _ => ⟨rfl, rfl⟩), 2, true, none⟩), (1, ⟨.arg a8 4 (fun i => [.int .i64 (.x (a9 i)), .int .i64 (.x (a10 i)), .int .i64 (.x (a11 i)), .int .i64 (.x (a12 i))]) (fun _ => ⟨rfl, rfl⟩), 4, true, none⟩)]))
  args := [.yld 8, .ptr (some (5, 0)), .ptr (some (6, 0)), .ptr (some (7, 0))]
  res := (Try.f87).results.toList
  path := fun a => match a with
   | .n0 q0 q1 q2 q3 => [1, 1, 0]
  pd := fun a => match a with
   | .n0 q0 q1 q2 q3 => ⟨[(0, .yld 8), (2, .ptr (some (6, 0))), (3, .ptr (some (7, 0))), (5, .int .i64 (.x q0)), (11, .sla 1 4 0 p6), (12, .int .i64 (.x (↑p6))), (13, .int .i64 (.x q1))], [(4, ⟨.lit [.int .i64 (.x q2), .int .i64 (.x q3)], 0, true, none⟩)], 9, [(8, recS (mkT [(8, .ptr (some (2, 0))), (10, .ptr (some (3, 0))), (12, .ptr (some (4, 0))), (40, .fn (.func 87) [] [.ptr (some (5, 0)), .ptr (some (6, 0)), .ptr (some (7, 0))])]) 51 (rgP (codeAt dweCode [1, 1, 1, 1, 1, 0, 1, 0])) (rgA (codeAt dweCode [1, 1, 1, 1, 1, 0, 1, 0])) (rgB (codeAt dweCode [1, 1, 1, 1, 1, 0, 1, 0])) (.ready) (.none))]⟩
  D0 := dwes0D0 a0 a1 a2 a3 a4 a5 a6 a7 a8 a9 a10 a11 a12 a13 a14 p0 p1 p2 p3 p4 p5 p6 p7
  D := dwes0D a0 a1 a2 a3 a4 a5 a6 a7 a8 a9 a10 a11 a12 a13 a14 p0 p1 p2 p3 p4 p5 p6 p7
  rc := (fun v => match v with
 | .r0 q0 q1 => .tup [])
  rh := (fun v => match v with
 | .r0 q0 q1 => [(4, ⟨.lit [.int .i64 (.x q0), .int .i64 (.x q1)], 0, true, none⟩)])
  rn := (fun v => match v with
 | .r0 q0 q1 => 9)
  rx := (fun v => match v with
 | .r0 q0 q1 => [(8, recS (mkT [(8, .ptr (some (2, 0))), (10, .ptr (some (3, 0))), (12, .ptr (some (4, 0))), (40, .fn (.func 87) [] [.ptr (some (5, 0)), .ptr (some (6, 0)), .ptr (some (7, 0))])]) 51 (rgP (codeAt dweCode [1, 1, 1, 1, 1, 0, 1, 0])) (rgA (codeAt dweCode [1, 1, 1, 1, 1, 0, 1, 0])) (rgB (codeAt dweCode [1, 1, 1, 1, 1, 0, 1, 0])) (.ready) (.none))])
  rgo := (fun _ => none)
theorem dwes0start (a0 : Bool) (a1 a2 a3 a4 : Int) (a5 : Nat) (a6 a7 : Nat → Int) (a8 : Nat) (a9 a10 a11 a12 : Nat → Int) (a13 a14 : Int) (p0 : Bool) (p1 p2 p3 p4 : Int) (p5 p6 : Nat) (p7 : Int) : AF.edgeOk (dwes0A a0 a1 a2 a3 a4 a5 a6 a7 a8 a9 a10 a11 a12 a13 a14 p0 p1 p2 p3 p4 p5 p6 p7) (ctxOf Try.prog memo0) (dwes0D0 a0 a1 a2 a3 a4 a5 a6 a7 a8 a9 a10 a11 a12 a13 a14 p0 p1 p2 p3 p4 p5 p6 p7) (AF.run0 (dwes0A a0 a1 a2 a3 a4 a5 a6 a7 a8 a9 a10 a11 a12 a13 a14 p0 p1 p2 p3 p4 p5 p6 p7) (ctxOf Try.prog (memoS 65 dwoP dwoF dwoW dwoH 2 (memoP 63 dshP dshF dshW dshH 2 memo0)))) := by unfold AF.edgeOk; kernel_rfl
theorem dwes0node0 (a0 : Bool) (a1 a2 a3 a4 : Int) (a5 : Nat) (a6 a7 : Nat → Int) (a8 : Nat) (a9 a10 a11 a12 : Nat → Int) (a13 a14 : Int) (p0 : Bool) (p1 p2 p3 p4 : Int) (p5 p6 : Nat) (p7 q0 q1 q2 q3 : Int) : AF.edgeOk (dwes0A a0 a1 a2 a3 a4 a5 a6 a7 a8 a9 a10 a11 a12 a13 a14 p0 p1 p2 p3 p4 p5 p6 p7) (ctxOf Try.prog memo0) (dwes0D a0 a1 a2 a3 a4 a5 a6 a7 a8 a9 a10 a11 a12 a13 a14 p0 p1 p2 p3 p4 p5 p6 p7 (.n0 q0 q1 q2 q3)) (AF.runN (dwes0A a0 a1 a2 a3 a4 a5 a6 a7 a8 a9 a10 a11 a12 a13 a14 p0 p1 p2 p3 p4 p5 p6 p7) (ctxOf Try.prog (memoS 65 dwoP dwoF dwoW dwoH 2 (memoP 63 dshP dshF dshW dshH 2 memo0))) (.n0 q0 q1 q2 q3)) := by unfold AF.edgeOk; kernel_rfl
theorem dwes0ok (a0 : Bool) (a1 a2 a3 a4 : Int) (a5 : Nat) (a6 a7 : Nat → Int) (a8 : Nat) (a9 a10 a11 a12 : Nat → Int) (a13 a14 : Int) (p0 : Bool) (p1 p2 p3 p4 : Int) (p5 p6 : Nat) (p7 : Int) : (dwes0A a0 a1 a2 a3 a4 a5 a6 a7 a8 a9 a10 a11 a12 a13 a14 p0 p1 p2 p3 p4 p5 p6 p7).Ok Try.prog (ctxOf Try.prog (memoS 65 dwoP dwoF dwoW dwoH 2 (memoP 63 dshP dshF dshW dshH 2 memo0))) where
  regs := by kernel_rfl
  h0 := by kernel_rfl
  start := dwes0start a0 a1 a2 a3 a4 a5 a6 a7 a8 a9 a10 a11 a12 a13 a14 p0 p1 p2 p3 p4 p5 p6 p7
  node := fun a _ => match a with
   | .n0 q0 q1 q2 q3 => dwes0node0 a0 a1 a2 a3 a4 a5 a6 a7 a8 a9 a10 a11 a12 a13 a14 p0 p1 p2 p3 p4 p5 p6 p7 q0 q1 q2 q3
  pd := fun a => match a with
   | .n0 q0 q1 q2 q3 => ⟨(fa_cons rfl (fa_cons rfl (fa_cons rfl (fa_cons rfl (fa_cons rfl (fa_cons rfl (fa_cons rfl fa_nil))))))), (fa_cons ⟨.inr (memW rfl), rfl, rfl⟩ fa_nil), (fa_cons ⟨memW rfl, RecOk.of rfl⟩ fa_nil), rfl⟩
  le := fun a => match a with
   | .n0 q0 q1 q2 q3 => Nat.le_of_ble_eq_true rfl
  rd := fun v => match v with
   | .r0 q0 q1 => ⟨⟨fa_nil, (fa_cons ⟨.inr (memW rfl), rfl, rfl⟩ fa_nil), (fa_cons ⟨memW rfl, RecOk.of rfl⟩ fa_nil), rfl⟩, rfl⟩
  wb := rfl
theorem dwes0hR {ρ : Env} (a0 : Bool) (a1 a2 a3 a4 : Int) (a5 : Nat) (a6 a7 : Nat → Int) (a8 : Nat) (a9 a10 a11 a12 : Nat → Int) (a13 a14 : Int) (p0 : Bool) (p1 p2 p3 p4 : Int) (p5 p6 : Nat) (p7 : Int) (hM : MemoOk Try.prog (ctxOf Try.prog (memoS 65 dwoP dwoF dwoW dwoH 2 (memoP 63 dshP dshF dshW dshH 2 memo0))) ρ) : ∀ X a q n D, FxOk ρ X → X.base = (dwes0A a0 a1 a2 a3 a4 a5 a6 a7 a8 a9 a10 a11 a12 a13 a14 p0 p1 p2 p3 p4 p5 p6 p7).base → X.nt = (dwes0A a0 a1 a2 a3 a4 a5 a6 a7 a8 a9 a10 a11 a12 a13 a14 p0 p1 p2 p3 p4 p5 p6 p7).nt → X.W = (dwes0A a0 a1 a2 a3 a4 a5 a6 a7 a8 a9 a10 a11 a12 a13 a14 p0 p1 p2 p3 p4 p5 p6 p7).W → (dwes0A a0 a1 a2 a3 a4 a5 a6 a7 a8 a9 a10 a11 a12 a13 a14 p0 p1 p2 p3 p4 p5 p6 p7).rgo a = some q → q n = some D → (dwes0A a0 a1 a2 a3 a4 a5 a6 a7 a8 a9 a10 a11 a12 a13 a14 p0 p1 p2 p3 p4 p5 p6 p7).RangeOk Try.prog ρ X a D := AF.noRange rfl
inductive dweN where
  | n0 (p0 : Bool) (p1 p2 p3 p4 : Int) (p5 p6 : Nat) (p7 : Int)
abbrev dweR := Int × Int × Int
noncomputable def dweD0 (a0 : Bool) (a1 a2 a3 a4 : Int) (a5 : Nat) (a6 a7 : Nat → Int) (a8 : Nat) (a9 a10 a11 a12 : Nat → Int) (a13 a14 : Int) : DD (Lf dweN dweR) :=
 let z0 := fun i => [CV.int IntKind.i64 (IE.x (a6 (0 + i))), CV.int IntKind.i64 (IE.x (a7 (0 + i)))]
 let z1 := fun i => [CV.int IntKind.i64 (IE.x (a9 (0 + i))), CV.int IntKind.i64 (IE.x (a10 (0 + i))), CV.int IntKind.i64 (IE.x (a11 (0 + i))), CV.int IntKind.i64 (IE.x (a12 (0 + i)))]
 let z2 := dshA a0 a1 a2 a3 a4 a5 (fun i => a6 (0 + i)) (fun i => a7 (0 + i)) a8 (fun i => a9 (0 + i)) (fun i => a10 (0 + i)) (fun i => a11 (0 + i)) (fun i => a12 (0 + i))
 let z3 := AF.val z2
 let z4 := dshw7 z3
 .must (decide (0 + a5 ≤ a5))
   (.must (ShapeOk [some IntKind.i64, some IntKind.i64] (tabOf a5 z0) z0)
   (.must (decide (0 + a8 ≤ a8))
   (.must (ShapeOk [some IntKind.i64, some IntKind.i64, some IntKind.i64, some IntKind.i64] (tabOf a8 z1) z1)
   (.must (AF.fin z2)
   (.ask (Cm.run .neq (dshw8 z3) 0)
   (.leaf (.done (0, 0, dshw8 z3) []))
   (.ask (Cm.run .lss a13 0)
   (.leaf (.done (0, 0, 3) []))
   (.ask (Cm.run .gtr a13 z4)
   (.leaf (.done (0, 0, 3) []))
   (.ask (Cm.run .lss a14 0)
   (.leaf (.done (0, 0, 3) []))
   (.ask (Cm.run .gtr a14 z4)
   (.leaf (.done (0, 0, 3) []))
   (.ask (Cm.run .gtr a13 a14)
   (.leaf (.done (0, 0, 3) []))
   (.leaf (.next (.n0 (dshw0 z3) (dshw1 z3) (dshw2 z3) (dshw3 z3) (dshw4 z3) (dshw5 z3) (dshw6 z3) z4) [3, 4, 8, 9, 10, 11]))))))))))))

noncomputable def dweD (a0 : Bool) (a1 a2 a3 a4 : Int) (a5 : Nat) (a6 a7 : Nat → Int) (a8 : Nat) (a9 a10 a11 a12 : Nat → Int) (a13 a14 : Int) : dweN → DD (Lf dweN dweR)
 | .n0 p0 p1 p2 p3 p4 p5 p6 p7 =>
 .dead

noncomputable def dweRg0 (a0 : Bool) (a1 a2 a3 a4 : Int) (a5 : Nat) (a6 a7 : Nat → Int) (a8 : Nat) (a9 a10 a11 a12 : Nat → Int) (a13 a14 : Int) (p0 : Bool) (p1 p2 p3 p4 : Int) (p5 p6 : Nat) (p7 : Int) : dwes0R → DD (Lf dweN dweR)
 | .r0 q0 q1 =>
 .leaf (.done (q0, q1, 0) [])

noncomputable def dweA (a0 : Bool) (a1 a2 a3 a4 : Int) (a5 : Nat) (a6 a7 : Nat → Int) (a8 : Nat) (a9 a10 a11 a12 : Nat → Int) (a13 a14 : Int) : AF dweN dweR where
  code := dweCode
  base := 2
  nt := 51
  m := 400
  un := [1000008]
  W := []
  h0 := [(0, ⟨.arg a5 2 (fun i => [.int .i64 (.x (a6 i)), .int .i64 (.x (a7 i))]) (fun _ => ⟨rfl, rfl⟩), 2, true, none⟩), (1, ⟨.arg a8 4 (fun i => [.int .i64 (.x (a9 i)), .int .i64 (.x (a10 i)), .int .i64 (.x (a11 i)), .int .i64 (.x (a12 i))]) (fun _ => ⟨rfl, rfl⟩), 4, true, none⟩)]
  args := [.agg [.bool (.x a0), .int .i64 (.x a1), .int .i64 (.x a2), .int .i64 (.x a3), .int .i64 (.x a4), .sla 0 2 0 a5], .sla 1 4 0 a8, .int .i64 (.x a13), .int .i64 (.x a14)]
  res := (Try.f18).results.toList
  path := fun a => match a with
   | .n0 p0 p1 p2 p3 p4 p5 p6 p7 => [1, 1, 1, 1, 1, 0, 1, 0]
  pd := fun a => match a with
   | .n0 p0 p1 p2 p3 p4 p5 p6 p7 => ⟨[(8, .ptr (some (2, 0))), (10, .ptr (some (3, 0))), (12, .ptr (some (4, 0))), (40, .fn (.func 87) [] [.ptr (some (5, 0)), .ptr (some (6, 0)), .ptr (some (7, 0))])], [(2, ⟨.lit [.int .i64 (.x 0), .int .i64 (.x 0)], 0, true, none⟩), (3, ⟨.lit [.bool (.x p0), .int .i64 (.x p1), .int .i64 (.x p2), .int .i64 (.x p3), .int .i64 (.x p4), .sla 0 2 0 p5, .sla 1 4 0 p6, .int .i64 (.x p7)], 0, true, none⟩), (4, ⟨.lit [.int .i64 (.x 0), .int .i64 (.x 0)], 0, true, none⟩), (5, ⟨.lit [.bool (.x p0), .int .i64 (.x p1), .int .i64 (.x p2), .int .i64 (.x p3), .int .i64 (.x p4), .sla 0 2 0 p5, .sla 1 4 0 p6, .int .i64 (.x p7)], 0, true, none⟩), (6, ⟨.lit [.int .i64 (.x a13)], 0, true, none⟩), (7, ⟨.lit [.int .i64 (.x a14)], 0, true, none⟩)], 8, []⟩
  D0 := dweD0 a0 a1 a2 a3 a4 a5 a6 a7 a8 a9 a10 a11 a12 a13 a14
  D := dweD a0 a1 a2 a3 a4 a5 a6 a7 a8 a9 a10 a11 a12 a13 a14
  rc := (fun v => .tup [.agg [.int .i64 (.x v.1), .int .i64 (.x v.2.1)], .int .i64 (.x v.2.2)])
  rh := (fun v => [])
  rn := (fun v => 2)
  rx := (fun v => [])
  rgo := (fun a => match a with
   | .n0 p0 p1 p2 p3 p4 p5 p6 p7 => some (fun n => (AF.run (dwes0A a0 a1 a2 a3 a4 a5 a6 a7 a8 a9 a10 a11 a12 a13 a14 p0 p1 p2 p3 p4 p5 p6 p7) n).map (dweRg0 a0 a1 a2 a3 a4 a5 a6 a7 a8 a9 a10 a11 a12 a13 a14 p0 p1 p2 p3 p4 p5 p6 p7)))
theorem dwestart (a0 : Bool) (a1 a2 a3 a4 : Int) (a5 : Nat) (a6 a7 : Nat → Int) (a8 : Nat) (a9 a10 a11 a12 : Nat → Int) (a13 a14 : Int) : AF.edgeOk (dweA a0 a1 a2 a3 a4 a5 a6 a7 a8 a9 a10 a11 a12 a13 a14) (ctxOf Try.prog memo0) (dweD0 a0 a1 a2 a3 a4 a5 a6 a7 a8 a9 a10 a11 a12 a13 a14) (AF.run0 (dweA a0 a1 a2 a3 a4 a5 a6 a7 a8 a9 a10 a11 a12 a13 a14) (ctxOf Try.prog (memoS 65 dwoP dwoF dwoW dwoH 2 (memoP 63 dshP dshF dshW dshH 2 memo0)))) := by unfold AF.edgeOk; kernel_rfl
theorem dweok (a0 : Bool) (a1 a2 a3 a4 : Int) (a5 : Nat) (a6 a7 : Nat → Int) (a8 : Nat) (a9 a10 a11 a12 : Nat → Int) (a13 a14 : Int) : (dweA a0 a1 a2 a3 a4 a5 a6 a7 a8 a9 a10 a11 a12 a13 a14).Ok Try.prog (ctxOf Try.prog (memoS 65 dwoP dwoF dwoW dwoH 2 (memoP 63 dshP dshF dshW dshH 2 memo0))) where
  regs := by kernel_rfl
  h0 := by kernel_rfl
  start := dwestart a0 a1 a2 a3 a4 a5 a6 a7 a8 a9 a10 a11 a12 a13 a14
  node := fun a h => match a, h with
   | .n0 p0 p1 p2 p3 p4 p5 p6 p7, h => someNe h
  pd := fun a => match a with
   | .n0 p0 p1 p2 p3 p4 p5 p6 p7 => ⟨(fa_cons rfl (fa_cons rfl (fa_cons rfl (fa_cons rfl fa_nil)))), (fa_cons ⟨.inl (Nat.le_of_ble_eq_true rfl), rfl, rfl⟩ (fa_cons ⟨.inl (Nat.le_of_ble_eq_true rfl), rfl, rfl⟩ (fa_cons ⟨.inl (Nat.le_of_ble_eq_true rfl), rfl, rfl⟩ (fa_cons ⟨.inl (Nat.le_of_ble_eq_true rfl), rfl, rfl⟩ (fa_cons ⟨.inl (Nat.le_of_ble_eq_true rfl), rfl, rfl⟩ (fa_cons ⟨.inl (Nat.le_of_ble_eq_true rfl), rfl, rfl⟩ fa_nil)))))), fa_nil, rfl⟩
  le := fun a => match a with
   | .n0 p0 p1 p2 p3 p4 p5 p6 p7 => Nat.le_of_ble_eq_true rfl
  rd := fun v => ⟨⟨fa_nil, fa_nil, fa_nil, rfl⟩, rfl⟩
  wb := rfl
theorem dwerg0_0 (a0 : Bool) (a1 a2 a3 a4 : Int) (a5 : Nat) (a6 a7 : Nat → Int) (a8 : Nat) (a9 a10 a11 a12 : Nat → Int) (a13 a14 : Int) (p0 : Bool) (p1 p2 p3 p4 : Int) (p5 p6 : Nat) (p7 q0 q1 : Int) : AF.edgeOk (dweA a0 a1 a2 a3 a4 a5 a6 a7 a8 a9 a10 a11 a12 a13 a14) (ctxOf Try.prog memo0) (dweRg0 a0 a1 a2 a3 a4 a5 a6 a7 a8 a9 a10 a11 a12 a13 a14 p0 p1 p2 p3 p4 p5 p6 p7 (.r0 q0 q1)) (AF.runR (dweA a0 a1 a2 a3 a4 a5 a6 a7 a8 a9 a10 a11 a12 a13 a14) (ctxOf Try.prog (memoS 65 dwoP dwoF dwoW dwoH 2 (memoP 63 dshP dshF dshW dshH 2 memo0))) (.n0 p0 p1 p2 p3 p4 p5 p6 p7) (putH (dwes0A a0 a1 a2 a3 a4 a5 a6 a7 a8 a9 a10 a11 a12 a13 a14 p0 p1 p2 p3 p4 p5 p6 p7).H0 ((dwes0A a0 a1 a2 a3 a4 a5 a6 a7 a8 a9 a10 a11 a12 a13 a14 p0 p1 p2 p3 p4 p5 p6 p7).rh (.r0 q0 q1) ++ (dwes0A a0 a1 a2 a3 a4 a5 a6 a7 a8 a9 a10 a11 a12 a13 a14 p0 p1 p2 p3 p4 p5 p6 p7).rx (.r0 q0 q1))) ((dwes0A a0 a1 a2 a3 a4 a5 a6 a7 a8 a9 a10 a11 a12 a13 a14 p0 p1 p2 p3 p4 p5 p6 p7).rn (.r0 q0 q1)) ⟨mkT [(8, .ptr (some (2, 0))), (10, .ptr (some (3, 0))), (12, .ptr (some (4, 0))), (40, .fn (.func 87) [] [.ptr (some (5, 0)), .ptr (some (6, 0)), .ptr (some (7, 0))])], 51, rgP (codeAt dweCode [1, 1, 1, 1, 1, 0, 1, 0]), rgA (codeAt dweCode [1, 1, 1, 1, 1, 0, 1, 0]), rgB (codeAt dweCode [1, 1, 1, 1, 1, 0, 1, 0]), .ready, .none⟩ .normal) := by unfold AF.edgeOk; kernel_rfl
theorem dwerg0 (a0 : Bool) (a1 a2 a3 a4 : Int) (a5 : Nat) (a6 a7 : Nat → Int) (a8 : Nat) (a9 a10 a11 a12 : Nat → Int) (a13 a14 : Int) (p0 : Bool) (p1 p2 p3 p4 : Int) (p5 p6 : Nat) (p7 : Int) : AF.Rg (dweA a0 a1 a2 a3 a4 a5 a6 a7 a8 a9 a10 a11 a12 a13 a14) (dwes0A a0 a1 a2 a3 a4 a5 a6 a7 a8 a9 a10 a11 a12 a13 a14 p0 p1 p2 p3 p4 p5 p6 p7) Try.prog (ctxOf Try.prog (memoS 65 dwoP dwoF dwoW dwoH 2 (memoP 63 dshP dshF dshW dshH 2 memo0))) (ctxOf Try.prog (memoS 65 dwoP dwoF dwoW dwoH 2 (memoP 63 dshP dshF dshW dshH 2 memo0))) (.n0 p0 p1 p2 p3 p4 p5 p6 p7) (rgF (codeAt dweCode [1, 1, 1, 1, 1, 0, 1, 0])) (rgP (codeAt dweCode [1, 1, 1, 1, 1, 0, 1, 0])) (rgA (codeAt dweCode [1, 1, 1, 1, 1, 0, 1, 0])) (rgB (codeAt dweCode [1, 1, 1, 1, 1, 0, 1, 0])) 87 Try.f87 [] [.ptr (some (5, 0)), .ptr (some (6, 0)), .ptr (some (7, 0))] (fun v => match v with
   | .r0 q0 q1 => ⟨mkT [(8, .ptr (some (2, 0))), (10, .ptr (some (3, 0))), (12, .ptr (some (4, 0))), (40, .fn (.func 87) [] [.ptr (some (5, 0)), .ptr (some (6, 0)), .ptr (some (7, 0))])], 51, rgP (codeAt dweCode [1, 1, 1, 1, 1, 0, 1, 0]), rgA (codeAt dweCode [1, 1, 1, 1, 1, 0, 1, 0]), rgB (codeAt dweCode [1, 1, 1, 1, 1, 0, 1, 0]), .ready, .none⟩) (fun v => match v with
   | .r0 q0 q1 => .normal) (dweRg0 a0 a1 a2 a3 a4 a5 a6 a7 a8 a9 a10 a11 a12 a13 a14 p0 p1 p2 p3 p4 p5 p6 p7) where
  code := by kernel_rfl
  fn := by kernel_rfl
  args := rfl
  base := rfl
  h0 := rfl
  W := rfl
  gfn := Try.func87
  body := rfl
  nt := rfl
  len := Nat.le_of_ble_eq_true rfl
  res := rfl
  ok := dwes0ok a0 a1 a2 a3 a4 a5 a6 a7 a8 a9 a10 a11 a12 a13 a14 p0 p1 p2 p3 p4 p5 p6 p7
  le := fun v => match v with
   | .r0 q0 q1 => Nat.le_of_ble_eq_true rfl
  lt := fun v => match v with
   | .r0 q0 q1 => rfl
  rcd := fun v => match v with
   | .r0 q0 q1 => rfl
  st := fun v => match v with
   | .r0 q0 q1 => (fun h => LoopState.noConfusion h)
  exd := fun v => match v with
   | .r0 q0 q1 => rfl
  D := fun v => match v with
   | .r0 q0 q1 => dwerg0_0 a0 a1 a2 a3 a4 a5 a6 a7 a8 a9 a10 a11 a12 a13 a14 p0 p1 p2 p3 p4 p5 p6 p7 q0 q1
theorem dwehR {ρ : Env} (a0 : Bool) (a1 a2 a3 a4 : Int) (a5 : Nat) (a6 a7 : Nat → Int) (a8 : Nat) (a9 a10 a11 a12 : Nat → Int) (a13 a14 : Int) (hM : MemoOk Try.prog (ctxOf Try.prog (memoS 65 dwoP dwoF dwoW dwoH 2 (memoP 63 dshP dshF dshW dshH 2 memo0))) ρ) : ∀ X a q n D, FxOk ρ X → X.base = (dweA a0 a1 a2 a3 a4 a5 a6 a7 a8 a9 a10 a11 a12 a13 a14).base → X.nt = (dweA a0 a1 a2 a3 a4 a5 a6 a7 a8 a9 a10 a11 a12 a13 a14).nt → X.W = (dweA a0 a1 a2 a3 a4 a5 a6 a7 a8 a9 a10 a11 a12 a13 a14).W → (dweA a0 a1 a2 a3 a4 a5 a6 a7 a8 a9 a10 a11 a12 a13 a14).rgo a = some q → q n = some D → (dweA a0 a1 a2 a3 a4 a5 a6 a7 a8 a9 a10 a11 a12 a13 a14).RangeOk Try.prog ρ X a D := by
  intro X a q n D h1 h2 h3 h4 hq hD
  cases a with
  | n0 p0 p1 p2 p3 p4 p5 p6 p7 =>
    have e := Option.some.inj hq
    subst e
    exact AF.range_ok (n := n) try_ok hM hM (dweok a0 a1 a2 a3 a4 a5 a6 a7 a8 a9 a10 a11 a12 a13 a14) (dwerg0 a0 a1 a2 a3 a4 a5 a6 a7 a8 a9 a10 a11 a12 a13 a14 p0 p1 p2 p3 p4 p5 p6 p7) (dwes0hR a0 a1 a2 a3 a4 a5 a6 a7 a8 a9 a10 a11 a12 a13 a14 p0 p1 p2 p3 p4 p5 p6 p7 hM) h1 h2 h3 h4 hD
theorem dwectr {ρ : Env} (a0 : Bool) (a1 a2 a3 a4 : Int) (a5 : Nat) (a6 a7 : Nat → Int) (a8 : Nat) (a9 a10 a11 a12 : Nat → Int) (a13 a14 : Int) {n : Nat} {v : dweR} (hM : MemoOk Try.prog (ctxOf Try.prog (memoS 65 dwoP dwoF dwoW dwoH 2 (memoP 63 dshP dshF dshW dshH 2 memo0))) ρ) (hv : (dweA a0 a1 a2 a3 a4 a5 a6 a7 a8 a9 a10 a11 a12 a13 a14).run n = some v) :
    Ctr Try.prog ρ 18 (dweA a0 a1 a2 a3 a4 a5 a6 a7 a8 a9 a10 a11 a12 a13 a14).args (dweA a0 a1 a2 a3 a4 a5 a6 a7 a8 a9 a10 a11 a12 a13 a14).H0 (dweA a0 a1 a2 a3 a4 a5 a6 a7 a8 a9 a10 a11 a12 a13 a14).base (dweA a0 a1 a2 a3 a4 a5 a6 a7 a8 a9 a10 a11 a12 a13 a14).W ((dweA a0 a1 a2 a3 a4 a5 a6 a7 a8 a9 a10 a11 a12 a13 a14).rc v) (putH (dweA a0 a1 a2 a3 a4 a5 a6 a7 a8 a9 a10 a11 a12 a13 a14).H0 ((dweA a0 a1 a2 a3 a4 a5 a6 a7 a8 a9 a10 a11 a12 a13 a14).rh v ++ (dweA a0 a1 a2 a3 a4 a5 a6 a7 a8 a9 a10 a11 a12 a13 a14).rx v)) ((dweA a0 a1 a2 a3 a4 a5 a6 a7 a8 a9 a10 a11 a12 a13 a14).rn v) :=
  AF.ctr try_ok hM (dweok a0 a1 a2 a3 a4 a5 a6 a7 a8 a9 a10 a11 a12 a13 a14) (fn := Try.f18) Try.func18 rfl rfl (Nat.le_of_ble_eq_true rfl) rfl (dwehR a0 a1 a2 a3 a4 a5 a6 a7 a8 a9 a10 a11 a12 a13 a14 hM) hv
theorem dwemem {ρ : Env} : MemoOk Try.prog (ctxOf Try.prog (memoS 65 dwoP dwoF dwoW dwoH 2 (memoP 63 dshP dshF dshW dshH 2 memo0))) ρ := (memoS_ok (dwoknown dwomem) (memoP_ok (dshknown dshmem) memo0_ok))
abbrev dweP : List AQ := [.agg [.bool, .int .i64, .int .i64, .int .i64, .int .i64, .rows [some .i64, some .i64]], .rows [some .i64, some .i64, some .i64, some .i64], .int .i64, .int .i64]
noncomputable def dweF (v : AW) : AF dweN dweR := dweA (v.b.getD 0 false) (v.i.getD 0 0) (v.i.getD 1 0) (v.i.getD 2 0) (v.i.getD 3 0) (v.t.getD 0 .none).n ((v.t.getD 0 .none).c 0) ((v.t.getD 0 .none).c 1) (v.t.getD 1 .none).n ((v.t.getD 1 .none).c 0) ((v.t.getD 1 .none).c 1) ((v.t.getD 1 .none).c 2) ((v.t.getD 1 .none).c 3) (v.i.getD 4 0) (v.i.getD 5 0)
noncomputable def dweW : dweR → CV := fun v => .tup [.agg [.int .i64 (.x v.1), .int .i64 (.x v.2.1)], .int .i64 (.x v.2.2)]
noncomputable def dweH : dweR → List (Nat × Blk) := fun v => []
instance : Inhabited dweR := ⟨(0, 0, 0)⟩
theorem dweknown {ρ : Env} (hM : MemoOk Try.prog (ctxOf Try.prog (memoS 65 dwoP dwoF dwoW dwoH 2 (memoP 63 dshP dshF dshW dshH 2 memo0))) ρ) : KnownS Try.prog ρ 18 dweP dweF dweW dweH 2 where
  fn := ⟨Try.f18, Try.func18, rfl⟩
  le := Nat.le_of_ble_eq_true rfl
  full := fun r => rfl
  rg := fun r => rfl
  hg := fun r => fa_nil
  ctr := fun v n r h => dwectr (v.b.getD 0 false) (v.i.getD 0 0) (v.i.getD 1 0) (v.i.getD 2 0) (v.i.getD 3 0) (v.t.getD 0 .none).n ((v.t.getD 0 .none).c 0) ((v.t.getD 0 .none).c 1) (v.t.getD 1 .none).n ((v.t.getD 1 .none).c 0) ((v.t.getD 1 .none).c 1) ((v.t.getD 1 .none).c 2) ((v.t.getD 1 .none).c 3) (v.i.getD 4 0) (v.i.getD 5 0) hM h
end Go.Proofs.Ythagjhadjpangaa.Cx

/- acme/die.Targets as an automaton. Made by tools/cxauto.py. -/
namespace Go.Proofs.Ythagjhadjpangaa.Cx
set_option linter.unusedVariables false
set_option linter.unusedSimpArgs false
set_option maxRecDepth 100000
open Go Go.Proofs Go.RowKit
noncomputable abbrev dtaCode : Code := funcCode Try.f19
abbrev dtaN := Empty
abbrev dtaR := Int × Int × Int
noncomputable def dtaD0 (a0 : Bool) (a1 a2 a3 a4 : Int) (a5 : Nat) (a6 a7 : Nat → Int) (a8 : Nat) (a9 a10 a11 a12 : Nat → Int) (a13 a14 : Int) : DD (Lf dtaN dtaR) :=
 let z0 := fun i => [CV.int IntKind.i64 (IE.x (a6 (0 + i))), CV.int IntKind.i64 (IE.x (a7 (0 + i)))]
 let z1 := fun i => [CV.int IntKind.i64 (IE.x (a9 (0 + i))), CV.int IntKind.i64 (IE.x (a10 (0 + i))), CV.int IntKind.i64 (IE.x (a11 (0 + i))), CV.int IntKind.i64 (IE.x (a12 (0 + i)))]
 let z2 := fun i => a6 (0 + i)
 let z3 := fun i => a7 (0 + i)
 let z4 := fun i => a9 (0 + i)
 let z5 := fun i => a10 (0 + i)
 let z6 := fun i => a11 (0 + i)
 let z7 := fun i => a12 (0 + i)
 let z8 := dshA a0 a1 a2 a3 a4 a5 z2 z3 a8 z4 z5 z6 z7
 let z9 := AF.val z8
 let z10 := dshw7 z9
 let z11 := dshw5 z9
 let z12 := dshw6 z9
 let z13 := drcA (dshw0 z9) (dshw1 z9) (dshw2 z9) (dshw3 z9) (dshw4 z9) z11 z2 z3 z12 z4 z5 z6 z7 z10 (-10000000000) 20000000000 a13 a14
 let z14 := AF.val z13
 let z15 := Prod.snd z14
 .must (decide (0 + a5 ≤ a5))
   (.must (ShapeOk [some IntKind.i64, some IntKind.i64] (tabOf a5 z0) z0)
   (.must (decide (0 + a8 ≤ a8))
   (.must (ShapeOk [some IntKind.i64, some IntKind.i64, some IntKind.i64, some IntKind.i64] (tabOf a8 z1) z1)
   (.must (AF.fin z8)
   (.ask (Cm.run .neq (dshw8 z9) 0)
   (.leaf (.done (0, 0, dshw8 z9) []))
   (.ask (Cm.run .lss a13 0)
   (.leaf (.done (0, 0, 3) []))
   (.ask (Cm.run .gtr a13 z10)
   (.leaf (.done (0, 0, 3) []))
   (.ask (Cm.run .lss a14 0)
   (.leaf (.done (0, 0, 3) []))
   (.ask (Cm.run .gtr a14 z10)
   (.leaf (.done (0, 0, 3) []))
   (.ask (Cm.run .geq a13 a14)
   (.leaf (.done (0, 0, 3) []))
   (.must (decide (0 + dshw5 z9 ≤ a5))
   (.must (ShapeOk [some IntKind.i64, some IntKind.i64] (tabOf z11 z0) z0)
   (.must (decide (0 + dshw6 z9 ≤ a8))
   (.must (ShapeOk [some IntKind.i64, some IntKind.i64, some IntKind.i64, some IntKind.i64] (tabOf z12 z1) z1)
   (.must (AF.fin z13)
   (.ask (Cm.run .lss (Prod.snd z15) a14)
   (.leaf (.done (0, 0, 9) []))
   (.leaf (.done (Prod.fst z14, Prod.fst z15, 0) []))))))))))))))))))

noncomputable def dtaD (a0 : Bool) (a1 a2 a3 a4 : Int) (a5 : Nat) (a6 a7 : Nat → Int) (a8 : Nat) (a9 a10 a11 a12 : Nat → Int) (a13 a14 : Int) : dtaN → DD (Lf dtaN dtaR) := fun a => nomatch a
noncomputable def dtaA (a0 : Bool) (a1 a2 a3 a4 : Int) (a5 : Nat) (a6 a7 : Nat → Int) (a8 : Nat) (a9 a10 a11 a12 : Nat → Int) (a13 a14 : Int) : AF dtaN dtaR where
  code := dtaCode
  base := 2
  nt := 50
  m := 400
  un := []
  W := []
  h0 := [(0, ⟨.arg a5 2 (fun i => [.int .i64 (.x (a6 i)), .int .i64 (.x (a7 i))]) (fun _ => ⟨rfl, rfl⟩), 2, true, none⟩), (1, ⟨.arg a8 4 (fun i => [.int .i64 (.x (a9 i)), .int .i64 (.x (a10 i)), .int .i64 (.x (a11 i)), .int .i64 (.x (a12 i))]) (fun _ => ⟨rfl, rfl⟩), 4, true, none⟩)]
  args := [.agg [.bool (.x a0), .int .i64 (.x a1), .int .i64 (.x a2), .int .i64 (.x a3), .int .i64 (.x a4), .sla 0 2 0 a5], .sla 1 4 0 a8, .int .i64 (.x a13), .int .i64 (.x a14)]
  res := (Try.f19).results.toList
  path := fun a => nomatch a
  pd := fun a => nomatch a
  D0 := dtaD0 a0 a1 a2 a3 a4 a5 a6 a7 a8 a9 a10 a11 a12 a13 a14
  D := dtaD a0 a1 a2 a3 a4 a5 a6 a7 a8 a9 a10 a11 a12 a13 a14
  rc := (fun v => .tup [.agg [.int .i64 (.x v.1), .int .i64 (.x v.2.1)], .int .i64 (.x v.2.2)])
  rh := (fun v => [])
  rn := (fun v => 2)
  rx := (fun v => [])
  rgo := (fun _ => none)
theorem dtastart (a0 : Bool) (a1 a2 a3 a4 : Int) (a5 : Nat) (a6 a7 : Nat → Int) (a8 : Nat) (a9 a10 a11 a12 : Nat → Int) (a13 a14 : Int) : AF.edgeOk (dtaA a0 a1 a2 a3 a4 a5 a6 a7 a8 a9 a10 a11 a12 a13 a14) (ctxOf Try.prog memo0) (dtaD0 a0 a1 a2 a3 a4 a5 a6 a7 a8 a9 a10 a11 a12 a13 a14) (AF.run0 (dtaA a0 a1 a2 a3 a4 a5 a6 a7 a8 a9 a10 a11 a12 a13 a14) (ctxOf Try.prog (memoS 67 drcP drcF drcW drcH 2 (memoP 63 dshP dshF dshW dshH 2 memo0)))) := by unfold AF.edgeOk; kernel_rfl
theorem dtaok (a0 : Bool) (a1 a2 a3 a4 : Int) (a5 : Nat) (a6 a7 : Nat → Int) (a8 : Nat) (a9 a10 a11 a12 : Nat → Int) (a13 a14 : Int) : (dtaA a0 a1 a2 a3 a4 a5 a6 a7 a8 a9 a10 a11 a12 a13 a14).Ok Try.prog (ctxOf Try.prog (memoS 67 drcP drcF drcW drcH 2 (memoP 63 dshP dshF dshW dshH 2 memo0))) where
  regs := by kernel_rfl
  h0 := by kernel_rfl
  start := dtastart a0 a1 a2 a3 a4 a5 a6 a7 a8 a9 a10 a11 a12 a13 a14
  node := fun a _ => nomatch a
  pd := fun a => nomatch a
  le := fun a => nomatch a
  rd := fun v => ⟨⟨fa_nil, fa_nil, fa_nil, rfl⟩, rfl⟩
  wb := rfl
theorem dtahR {ρ : Env} (a0 : Bool) (a1 a2 a3 a4 : Int) (a5 : Nat) (a6 a7 : Nat → Int) (a8 : Nat) (a9 a10 a11 a12 : Nat → Int) (a13 a14 : Int) (hM : MemoOk Try.prog (ctxOf Try.prog (memoS 67 drcP drcF drcW drcH 2 (memoP 63 dshP dshF dshW dshH 2 memo0))) ρ) : ∀ X a q n D, FxOk ρ X → X.base = (dtaA a0 a1 a2 a3 a4 a5 a6 a7 a8 a9 a10 a11 a12 a13 a14).base → X.nt = (dtaA a0 a1 a2 a3 a4 a5 a6 a7 a8 a9 a10 a11 a12 a13 a14).nt → X.W = (dtaA a0 a1 a2 a3 a4 a5 a6 a7 a8 a9 a10 a11 a12 a13 a14).W → (dtaA a0 a1 a2 a3 a4 a5 a6 a7 a8 a9 a10 a11 a12 a13 a14).rgo a = some q → q n = some D → (dtaA a0 a1 a2 a3 a4 a5 a6 a7 a8 a9 a10 a11 a12 a13 a14).RangeOk Try.prog ρ X a D := AF.noRange rfl
theorem dtactr {ρ : Env} (a0 : Bool) (a1 a2 a3 a4 : Int) (a5 : Nat) (a6 a7 : Nat → Int) (a8 : Nat) (a9 a10 a11 a12 : Nat → Int) (a13 a14 : Int) {n : Nat} {v : dtaR} (hM : MemoOk Try.prog (ctxOf Try.prog (memoS 67 drcP drcF drcW drcH 2 (memoP 63 dshP dshF dshW dshH 2 memo0))) ρ) (hv : (dtaA a0 a1 a2 a3 a4 a5 a6 a7 a8 a9 a10 a11 a12 a13 a14).run n = some v) :
    Ctr Try.prog ρ 19 (dtaA a0 a1 a2 a3 a4 a5 a6 a7 a8 a9 a10 a11 a12 a13 a14).args (dtaA a0 a1 a2 a3 a4 a5 a6 a7 a8 a9 a10 a11 a12 a13 a14).H0 (dtaA a0 a1 a2 a3 a4 a5 a6 a7 a8 a9 a10 a11 a12 a13 a14).base (dtaA a0 a1 a2 a3 a4 a5 a6 a7 a8 a9 a10 a11 a12 a13 a14).W ((dtaA a0 a1 a2 a3 a4 a5 a6 a7 a8 a9 a10 a11 a12 a13 a14).rc v) (putH (dtaA a0 a1 a2 a3 a4 a5 a6 a7 a8 a9 a10 a11 a12 a13 a14).H0 ((dtaA a0 a1 a2 a3 a4 a5 a6 a7 a8 a9 a10 a11 a12 a13 a14).rh v ++ (dtaA a0 a1 a2 a3 a4 a5 a6 a7 a8 a9 a10 a11 a12 a13 a14).rx v)) ((dtaA a0 a1 a2 a3 a4 a5 a6 a7 a8 a9 a10 a11 a12 a13 a14).rn v) :=
  AF.ctr try_ok hM (dtaok a0 a1 a2 a3 a4 a5 a6 a7 a8 a9 a10 a11 a12 a13 a14) (fn := Try.f19) Try.func19 rfl rfl (Nat.le_of_ble_eq_true rfl) rfl (dtahR a0 a1 a2 a3 a4 a5 a6 a7 a8 a9 a10 a11 a12 a13 a14 hM) hv
theorem dtamem {ρ : Env} : MemoOk Try.prog (ctxOf Try.prog (memoS 67 drcP drcF drcW drcH 2 (memoP 63 dshP dshF dshW dshH 2 memo0))) ρ := (memoS_ok (drcknown drcmem) (memoP_ok (dshknown dshmem) memo0_ok))
abbrev dtaP : List AQ := [.agg [.bool, .int .i64, .int .i64, .int .i64, .int .i64, .rows [some .i64, some .i64]], .rows [some .i64, some .i64, some .i64, some .i64], .int .i64, .int .i64]
noncomputable def dtaF (v : AW) : AF dtaN dtaR := dtaA (v.b.getD 0 false) (v.i.getD 0 0) (v.i.getD 1 0) (v.i.getD 2 0) (v.i.getD 3 0) (v.t.getD 0 .none).n ((v.t.getD 0 .none).c 0) ((v.t.getD 0 .none).c 1) (v.t.getD 1 .none).n ((v.t.getD 1 .none).c 0) ((v.t.getD 1 .none).c 1) ((v.t.getD 1 .none).c 2) ((v.t.getD 1 .none).c 3) (v.i.getD 4 0) (v.i.getD 5 0)
noncomputable def dtaW : dtaR → CV := fun v => .tup [.agg [.int .i64 (.x v.1), .int .i64 (.x v.2.1)], .int .i64 (.x v.2.2)]
noncomputable def dtaH : dtaR → List (Nat × Blk) := fun v => []
instance : Inhabited dtaR := ⟨(0, 0, 0)⟩
theorem dtaknown {ρ : Env} (hM : MemoOk Try.prog (ctxOf Try.prog (memoS 67 drcP drcF drcW drcH 2 (memoP 63 dshP dshF dshW dshH 2 memo0))) ρ) : KnownS Try.prog ρ 19 dtaP dtaF dtaW dtaH 2 where
  fn := ⟨Try.f19, Try.func19, rfl⟩
  le := Nat.le_of_ble_eq_true rfl
  full := fun r => rfl
  rg := fun r => rfl
  hg := fun r => fa_nil
  ctr := fun v n r h => dtactr (v.b.getD 0 false) (v.i.getD 0 0) (v.i.getD 1 0) (v.i.getD 2 0) (v.i.getD 3 0) (v.t.getD 0 .none).n ((v.t.getD 0 .none).c 0) ((v.t.getD 0 .none).c 1) (v.t.getD 1 .none).n ((v.t.getD 1 .none).c 0) ((v.t.getD 1 .none).c 1) ((v.t.getD 1 .none).c 2) ((v.t.getD 1 .none).c 3) (v.i.getD 4 0) (v.i.getD 5 0) hM h
end Go.Proofs.Ythagjhadjpangaa.Cx

/- acme/acmelaw07.unchanged as an automaton. Made by tools/cxauto.py. -/
namespace Go.Proofs.Ythagjhadjpangaa.Cx
set_option linter.unusedVariables false
set_option linter.unusedSimpArgs false
set_option maxRecDepth 100000
open Go Go.Proofs Go.RowKit
abbrev duoR := Bool
instance : Inhabited duoR := ⟨false⟩
end Go.Proofs.Ythagjhadjpangaa.Cx

/- Package die: reach, Wear, Targets, Reach; tools and orders that are as they were. -/
namespace Go.Proofs.Ythagjhadjpangaa.Cx
set_option linter.unusedVariables false
set_option linter.unusedSimpArgs false
set_option maxRecDepth 100000
set_option maxHeartbeats 4000000
open Go Go.RowKit
section
variable {a0 : Bool} {a1 a2 a3 a4 : Int} {a5 : Nat} {a6 a7 : Nat → Int} {a8 : Nat} {a9 a10 a11 a12 : Nat → Int} {a13 a14 a15 a16 a17 : Int}
theorem drc_gen (h : JobOk a1 a2 a3 a4 a5 a6 a7 a8 a9 a10 a11 a12) (h0 : 0 ≤ a16) (h1 : a16 ≤ a17) (h2 : a17 ≤ PS a9 a8) : AF.fin (drcA a0 a1 a2 a3 a4 a5 a6 a7 a8 a9 a10 a11 a12 a13 a14 a15 a16 a17) = true ∧ ∃ x y z, AF.val (drcA a0 a1 a2 a3 a4 a5 a6 a7 a8 a9 a10 a11 a12 a13 a14 a15 a16 a17) = (x, y, z) ∧ RchG a0 a1 a2 a3 a4 a5 a6 a7 a8 a9 a10 a11 a12 a13 a14 a15 a16 a17 x y z := by
  refine AF.val_satR (A := drcA a0 a1 a2 a3 a4 a5 a6 a7 a8 a9 a10 a11 a12 a13 a14 a15 a16 a17) (E := fun v => ∃ x y z, v = (x, y, z) ∧ RchG a0 a1 a2 a3 a4 a5 a6 a7 a8 a9 a10 a11 a12 a13 a14 a15 a16 a17 x y z) (Inv := fun _ => True) drc_mono (fun _ => 0) (fun a _ => .inr ?_) (show True from trivial)
  cases a with
  | n0 =>
    obtain ⟨n, v, hv, hE⟩ := drs_gen (a13 := a13) (a14 := a14) (a15 := a15) (a0 := a0) h h0 h1 h2
    refine ⟨_, n, drcRg0 a0 a1 a2 a3 a4 a5 a6 a7 a8 a9 a10 a11 a12 a13 a14 a15 a16 a17 v, rfl, ?_, ?_⟩
    · show Option.map _ (AF.run _ n) = _
      rw [hv]; rfl
    · cases v with
      | r0 x y _ _ => exact ⟨x, y, a17, rfl, hE⟩
      | r1 x y z _ _ => exact ⟨x, y, z, rfl, hE⟩
/-- What a range over parts wears. -/
def WrnS (a6 a7 : Nat → Int) (a8 : Nat) (a9 a10 : Nat → Int) (a13 a14 : Int) : dwes0R → Prop
  | .r0 x y => x = WSum (gW a6 a10 a9 a8) a13 (a14 - a13).toNat ∧ y = WSum (gW a7 a10 a9 a8) a13 (a14 - a13).toNat
theorem dws_gen (h : JobOk a1 a2 a3 a4 a5 a6 a7 a8 a9 a10 a11 a12) (h0 : 0 ≤ a13) (h1 : a13 ≤ a14) (h2 : a14 ≤ PS a9 a8) : ∃ n v, AF.run (dwes0A a0 a1 a2 a3 a4 a5 a6 a7 a8 a9 a10 a11 a12 a13 a14 a0 a1 a2 a3 a4 a5 a8 (PS a9 a8)) n = some v ∧ WrnS a6 a7 a8 a9 a10 a13 a14 v := by
  obtain ⟨_, tw, s1, s2⟩ := h.tool
  have few := h.few
  have tot := (h.wsum (f := a13) (j := 0) h0 (by omega)).2.2
  refine AF.run_sat (E := WrnS a6 a7 a8 a9 a10 a13 a14) (Inv := fun b => match b with | .n0 q0 q1 q2 q3 => 0 ≤ q1 ∧ q1 ≤ a8 ∧ q0 = PS a9 q1.toNat ∧ q2 = WSum (gW a6 a10 a9 a8) a13 (cN a13 a14 q0) ∧ q3 = WSum (gW a7 a10 a9 a8) a13 (cN a13 a14 q0))
    (fun b => match b with | .n0 q0 q1 q2 q3 => (a8 - q1).toNat) (fun b => rfl) (fun a hI => ?_) ?_
  · cases a with
    | n0 q0 q1 q2 q3 =>
      obtain ⟨g0, g1, e0, e2, e3⟩ := hI
      have cb : (cN a13 a14 q0 : Int) ≤ a14 - a13 := by unfold cN; omega
      have b := h.wsum (f := a13) (j := cN a13 a14 q0) h0 (by omega)
      rw [← e2, ← e3] at b
      show DD.sat _ _ (dwes0D a0 a1 a2 a3 a4 a5 a6 a7 a8 a9 a10 a11 a12 a13 a14 a0 a1 a2 a3 a4 a5 a8 (PS a9 a8) (.n0 q0 q1 q2 q3))
      unfold dwes0D
      have r0 := PS_rng h.pc q1.toNat (by omega)
      have ea : q1 < a8 → Ar.run .add .i64 q1 1 = q1 + 1 := fun h => arAdd (by omega)
      by_cases hq : q1 < a8
      · have pk := h.pc q1.toNat (by omega)
        obtain ⟨⟨_, _, z1, z2, z3⟩, st⟩ := h.ord q1.toNat (by omega)
        have nx : PS a9 (q1 + 1).toNat = q0 + a9 q1.toNat := by rw [show (q1 + 1).toNat = q1.toNat + 1 by omega, PS, e0]
        have nr := PS_mono h.pc (j := q1.toNat + 1) a8 (by omega) (Nat.le_refl _)
        rw [show q1.toNat + 1 = (q1 + 1).toNat by omega, nx] at nr
        obtain ⟨ps1, ps2⟩ := part_split (f := a13) (t := a14) (q0 := q0) (q1 := q0 + a9 q1.toNat) h1 (by omega)
        have f1 : Ar.run .add .i64 q0 (a9 q1.toNat) = q0 + a9 q1.toNat := arAdd (by omega)
        have f2 : Ar.run .sub .i64 (min (q0 + a9 q1.toNat) a14) (max q0 a13) = min (q0 + a9 q1.toNat) a14 - max q0 a13 := arSub (by omega)
        simp only [DD.sat, Nat.zero_add, cmLss, cmLssF, cmLeq, cmLeqF, cmGtr, cmGtrF, cmGeq, cmGeqF, cmEql, cmEqlF, cmNeq, cmNeqF, decide_eq_true_eq, Bool.not_eq_true', Bool.not_eq_false', f1, arMn, arMx, f2, ea hq]
        refine ⟨fun _ => ⟨g0, hq, by omega, fun hn => ?_, fun hn => ?_⟩, fun hx => by omega⟩
        · obtain ⟨p1, p2, p3⟩ := ps1 hn
          have hnb : min (q0 + a9 q1.toNat) a14 - max q0 a13 ≤ 1000000 := by omega
          obtain ⟨n, hnn⟩ : ∃ n : Nat, (n : Int) = min (q0 + a9 q1.toNat) a14 - max q0 a13 := ⟨(min (q0 + a9 q1.toNat) a14 - max q0 a13).toNat, by omega⟩
          have hk := part_ord (f := a13) (j := cN a13 a14 q0) (n := n) h (k := q1.toNat) (by omega) (by omega) (by rw [show q1.toNat + 1 = (q1 + 1).toNat by omega, nx]; omega)
          rw [← hnn] at p2 p3 hn ⊢
          have t2 : AF.fin (dwoA a0 a1 a2 a3 a4 a5 a6 a7 a8 a9 a10 a11 a12 (PS a9 a8) q2 q3 (a10 q1.toNat) n) = true ∧ _ := dwo_val tw st (by omega) (by omega) (by omega)
          have t2v : AF.val (dwoA a0 a1 a2 a3 a4 a5 (fun i => a6 i) (fun i => a7 i) a8 (fun i => a9 i) (fun i => a10 i) (fun i => a11 i) (fun i => a12 i) (PS a9 a8) q2 q3 (a10 q1.toNat) n) = _ := t2.2
          have jc : cN a13 a14 (q0 + a9 q1.toNat) = cN a13 a14 q0 + n := by omega
          simp only [t2v]
          refine ⟨Nat.le_refl _, shape_ok fun i _ => rfl, Nat.le_refl _, shape_ok fun i _ => rfl, t2.1, ⟨by omega, by omega, nx.symm, ?_, ?_⟩, by omega⟩
          · rw [jc, part_w (a10 := a10) a6 hk n (Nat.le_refl _), ← e2]
          · rw [jc, part_w (a10 := a10) a7 hk n (Nat.le_refl _), ← e3]
        · rw [ps2 hn]
          exact ⟨⟨by omega, by omega, nx.symm, e2, e3⟩, by omega⟩
      · simp only [DD.sat, Nat.zero_add, cmLss, cmLssF, cmLeq, cmLeqF, cmGtr, cmGtrF, cmGeq, cmGeqF, cmEql, cmEqlF, cmNeq, cmNeqF, decide_eq_true_eq, Bool.not_eq_true', Bool.not_eq_false']
        have hq1 : q1.toNat = a8 := by omega
        rw [hq1] at e0
        have ec : cN a13 a14 q0 = (a14 - a13).toNat := by unfold cN; omega
        rw [ec] at e2 e3
        exact ⟨fun hx => by omega, fun _ => ⟨e2, e3⟩⟩
  · have z : cN a13 a14 0 = 0 := by unfold cN; omega
    show 0 ≤ (0 : Int) ∧ (0 : Int) ≤ a8 ∧ _ ∧ _ ∧ _
    rw [z]
    exact ⟨by omega, by omega, rfl, rfl, rfl⟩
/-- What Wear yields. -/
def WeaE (a1 a2 a3 a4 : Int) (a5 : Nat) (a6 a7 : Nat → Int) (a8 : Nat) (a9 a10 a11 a12 : Nat → Int) (a13 a14 : Int) (v : Int × Int × Int) : Prop :=
  ∃ e, CkS a5 a8 (ToolOk a5 a6 a7 a1 a2 a3 a4) a9 a10 a11 a12 e ∧ (e ≠ 0 ∧ v = (0, 0, e) ∨ e = 0 ∧ (¬ (0 ≤ a13 ∧ a13 ≤ a14 ∧ a14 ≤ PS a9 a8) ∧ v = (0, 0, 3) ∨
    (0 ≤ a13 ∧ a13 ≤ a14 ∧ a14 ≤ PS a9 a8) ∧ v = (WSum (gW a6 a10 a9 a8) a13 (a14 - a13).toNat, WSum (gW a7 a10 a9 a8) a13 (a14 - a13).toNat, 0)))
theorem CkS.job (h : CkS a5 a8 (ToolOk a5 a6 a7 a1 a2 a3 a4) a9 a10 a11 a12 0) : JobOk a1 a2 a3 a4 a5 a6 a7 a8 a9 a10 a11 a12 := ⟨h.ok.1, h.ok.2.2.2.1, h.ok.2.2.2.2⟩
theorem dwe_mono : AF.Mono (dweA a0 a1 a2 a3 a4 a5 a6 a7 a8 a9 a10 a11 a12 a13 a14) := AF.mono_map fun a => by
  cases a with
  | n0 p0 p1 p2 p3 p4 p5 p6 p7 => exact .inr ⟨_, _, _, _, AF.mono_none (fun _ => rfl), rfl⟩
theorem dwe_val (hn : a5 ≤ 10000) (hm : a8 ≤ 10000) : AF.fin (dweA a0 a1 a2 a3 a4 a5 a6 a7 a8 a9 a10 a11 a12 a13 a14) = true ∧ WeaE a1 a2 a3 a4 a5 a6 a7 a8 a9 a10 a11 a12 a13 a14 (AF.val (dweA a0 a1 a2 a3 a4 a5 a6 a7 a8 a9 a10 a11 a12 a13 a14)) := by
  obtain ⟨hf, e, hC, hv⟩ := dsh_val (a0 := a0) (a1 := a1) (a2 := a2) (a3 := a3) (a4 := a4) (a5 := a5) (a6 := a6) (a7 := a7) (a8 := a8) (a9 := a9) (a10 := a10) (a11 := a11) (a12 := a12) hn hm
  refine AF.val_satR (A := dweA a0 a1 a2 a3 a4 a5 a6 a7 a8 a9 a10 a11 a12 a13 a14) (E := WeaE a1 a2 a3 a4 a5 a6 a7 a8 a9 a10 a11 a12 a13 a14) (Inv := fun b => match b with | .n0 p0 p1 p2 p3 p4 p5 p6 p7 => (p0 = a0 ∧ p1 = a1 ∧ p2 = a2 ∧ p3 = a3 ∧ p4 = a4 ∧ p5 = a5 ∧ p6 = a8 ∧ p7 = PS a9 a8) ∧ e = 0 ∧ 0 ≤ a13 ∧ a13 ≤ a14 ∧ a14 ≤ PS a9 a8) dwe_mono (fun _ => 0) (fun a hI => .inr ?_) ?_
  · cases a with
    | n0 p0 p1 p2 p3 p4 p5 p6 p7 =>
      obtain ⟨⟨rfl, rfl, rfl, rfl, rfl, rfl, rfl, rfl⟩, rfl, g0, g1, g2⟩ := hI
      obtain ⟨n, v, hv, hE⟩ := dws_gen (a0 := p0) hC.job g0 g1 g2
      refine ⟨_, n, dweRg0 p0 p1 p2 p3 p4 p5 a6 a7 p6 a9 a10 a11 a12 a13 a14 p0 p1 p2 p3 p4 p5 p6 (PS a9 p6) v, rfl, ?_, ?_⟩
      · show Option.map _ (AF.run _ n) = _
        rw [hv]; rfl
      · cases v with
        | r0 x y =>
          obtain ⟨rfl, rfl⟩ := hE
          exact ⟨0, hC, .inr ⟨rfl, .inr ⟨⟨g0, g1, g2⟩, rfl⟩⟩⟩
  · show DD.sat _ _ (dweD0 a0 a1 a2 a3 a4 a5 a6 a7 a8 a9 a10 a11 a12 a13 a14)
    unfold dweD0
    rcases hv with ⟨he, hv⟩ | ⟨rfl, hv⟩
    · have hv' : AF.val (dshA a0 a1 a2 a3 a4 a5 (fun i => a6 i) (fun i => a7 i) a8 (fun i => a9 i) (fun i => a10 i) (fun i => a11 i) (fun i => a12 i)) = .r0 e := hv
      simp only [DD.sat, Nat.zero_add, cmLss, cmLssF, cmLeq, cmLeqF, cmGtr, cmGtrF, cmGeq, cmGeqF, cmEql, cmEqlF, cmNeq, cmNeqF, decide_eq_true_eq, Bool.not_eq_true', Bool.not_eq_false', hv', dshw8]
      refine ⟨Nat.le_refl _, shape_ok fun i _ => rfl, Nat.le_refl _, shape_ok fun i _ => rfl, hf, fun _ => ⟨e, hC, .inl ⟨he, rfl⟩⟩, fun hx => absurd hx he⟩
    · have hv' : AF.val (dshA a0 a1 a2 a3 a4 a5 (fun i => a6 i) (fun i => a7 i) a8 (fun i => a9 i) (fun i => a10 i) (fun i => a11 i) (fun i => a12 i)) = .r1 a0 a1 a2 a3 a4 a5 a8 (PS a9 a8) := hv
      have bad : ¬ (0 ≤ a13 ∧ a13 ≤ a14 ∧ a14 ≤ PS a9 a8) → WeaE a1 a2 a3 a4 a5 a6 a7 a8 a9 a10 a11 a12 a13 a14 (0, 0, 3) := fun hb => ⟨0, hC, .inr ⟨rfl, .inl ⟨hb, rfl⟩⟩⟩
      simp only [DD.sat, Nat.zero_add, cmLss, cmLssF, cmLeq, cmLeqF, cmGtr, cmGtrF, cmGeq, cmGeqF, cmEql, cmEqlF, cmNeq, cmNeqF, decide_eq_true_eq, Bool.not_eq_true', Bool.not_eq_false', hv', dshw0, dshw1, dshw2, dshw3, dshw4, dshw5, dshw6, dshw7, dshw8]
      refine ⟨Nat.le_refl _, shape_ok fun i _ => rfl, Nat.le_refl _, shape_ok fun i _ => rfl, hf, fun hx => absurd rfl hx, fun _ => ⟨fun h => bad (by omega), fun h1 => ⟨fun h => bad (by omega), fun h2 => ⟨fun h => bad (by omega), fun h3 => ⟨fun h => bad (by omega), fun h4 => ⟨fun h => bad (by omega), fun h5 => (by repeat' (first | trivial | omega | apply And.intro))⟩⟩⟩⟩⟩⟩
/-- What Targets yields. -/
def TarE (a0 : Bool) (a1 a2 a3 a4 : Int) (a5 : Nat) (a6 a7 : Nat → Int) (a8 : Nat) (a9 a10 a11 a12 : Nat → Int) (a13 a14 : Int) (v : Int × Int × Int) : Prop :=
  ∃ e, CkS a5 a8 (ToolOk a5 a6 a7 a1 a2 a3 a4) a9 a10 a11 a12 e ∧ (e ≠ 0 ∧ v = (0, 0, e) ∨ e = 0 ∧ (¬ (0 ≤ a13 ∧ a13 < a14 ∧ a14 ≤ PS a9 a8) ∧ v = (0, 0, 3) ∨
    (0 ≤ a13 ∧ a13 < a14 ∧ a14 ≤ PS a9 a8) ∧ (LoM (-10000000000) (tlP a0 a1 a3 a6 a7 a10 a9 a11 a8 a13) (a14 - a13).toNat > HiM 20000000000 (thP a0 a2 a4 a6 a7 a10 a9 a12 a8 a13) (a14 - a13).toNat ∧ v = (0, 0, 9) ∨
      LoM (-10000000000) (tlP a0 a1 a3 a6 a7 a10 a9 a11 a8 a13) (a14 - a13).toNat ≤ HiM 20000000000 (thP a0 a2 a4 a6 a7 a10 a9 a12 a8 a13) (a14 - a13).toNat ∧ v = (LoM (-10000000000) (tlP a0 a1 a3 a6 a7 a10 a9 a11 a8 a13) (a14 - a13).toNat, HiM 20000000000 (thP a0 a2 a4 a6 a7 a10 a9 a12 a8 a13) (a14 - a13).toNat, 0))))
theorem dta_val (hn : a5 ≤ 10000) (hm : a8 ≤ 10000) : AF.fin (dtaA a0 a1 a2 a3 a4 a5 a6 a7 a8 a9 a10 a11 a12 a13 a14) = true ∧ TarE a0 a1 a2 a3 a4 a5 a6 a7 a8 a9 a10 a11 a12 a13 a14 (AF.val (dtaA a0 a1 a2 a3 a4 a5 a6 a7 a8 a9 a10 a11 a12 a13 a14)) := by
  obtain ⟨hf, e, hC, hv⟩ := dsh_val (a0 := a0) (a1 := a1) (a2 := a2) (a3 := a3) (a4 := a4) (a5 := a5) (a6 := a6) (a7 := a7) (a8 := a8) (a9 := a9) (a10 := a10) (a11 := a11) (a12 := a12) hn hm
  refine flat_val (E := TarE a0 a1 a2 a3 a4 a5 a6 a7 a8 a9 a10 a11 a12 a13 a14) (fun _ => rfl) ?_
  show DD.sat _ _ (dtaD0 a0 a1 a2 a3 a4 a5 a6 a7 a8 a9 a10 a11 a12 a13 a14)
  unfold dtaD0
  rcases hv with ⟨he, hv⟩ | ⟨rfl, hv⟩
  · have hv' : AF.val (dshA a0 a1 a2 a3 a4 a5 (fun i => a6 i) (fun i => a7 i) a8 (fun i => a9 i) (fun i => a10 i) (fun i => a11 i) (fun i => a12 i)) = .r0 e := hv
    simp only [DD.sat, Nat.zero_add, cmLss, cmLssF, cmLeq, cmLeqF, cmGtr, cmGtrF, cmGeq, cmGeqF, cmEql, cmEqlF, cmNeq, cmNeqF, decide_eq_true_eq, Bool.not_eq_true', Bool.not_eq_false', hv', dshw8]
    refine ⟨Nat.le_refl _, shape_ok fun i _ => rfl, Nat.le_refl _, shape_ok fun i _ => rfl, hf, fun _ => ⟨e, hC, .inl ⟨he, rfl⟩⟩, fun hx => absurd hx he⟩
  · have hv' : AF.val (dshA a0 a1 a2 a3 a4 a5 (fun i => a6 i) (fun i => a7 i) a8 (fun i => a9 i) (fun i => a10 i) (fun i => a11 i) (fun i => a12 i)) = .r1 a0 a1 a2 a3 a4 a5 a8 (PS a9 a8) := hv
    have bad : ¬ (0 ≤ a13 ∧ a13 < a14 ∧ a14 ≤ PS a9 a8) → TarE a0 a1 a2 a3 a4 a5 a6 a7 a8 a9 a10 a11 a12 a13 a14 (0, 0, 3) := fun hb => ⟨0, hC, .inr ⟨rfl, .inl ⟨hb, rfl⟩⟩⟩
    simp only [DD.sat, Nat.zero_add, cmLss, cmLssF, cmLeq, cmLeqF, cmGtr, cmGtrF, cmGeq, cmGeqF, cmEql, cmEqlF, cmNeq, cmNeqF, decide_eq_true_eq, Bool.not_eq_true', Bool.not_eq_false', hv', dshw0, dshw1, dshw2, dshw3, dshw4, dshw5, dshw6, dshw7, dshw8]
    refine ⟨Nat.le_refl _, shape_ok fun i _ => rfl, Nat.le_refl _, shape_ok fun i _ => rfl, hf, fun hx => absurd rfl hx, fun _ => ⟨fun h => bad (by omega), fun h1 => ⟨fun h => bad (by omega), fun h2 => ⟨fun h => bad (by omega), fun h3 => ⟨fun h => bad (by omega), fun h4 => ⟨fun h => bad (by omega), fun h5 => ?_⟩⟩⟩⟩⟩⟩
    obtain ⟨rf, x, y, z, rv, J, j1, j2, j3, rfl, rfl, rfl⟩ := drc_gen (a0 := a0) (a13 := PS a9 a8) (a14 := -10000000000) (a15 := 20000000000) hC.job (by omega) (Int.le_of_lt h5) (by omega)
    have rv' : AF.val (drcA a0 a1 a2 a3 a4 a5 (fun i => a6 i) (fun i => a7 i) a8 (fun i => a9 i) (fun i => a10 i) (fun i => a11 i) (fun i => a12 i) (PS a9 a8) (-10000000000) 20000000000 a13 a14) = _ := rv
    simp only [rv']
    refine ⟨Nat.le_refl _, shape_ok fun i _ => rfl, Nat.le_refl _, shape_ok fun i _ => rfl, rf, fun hz => ⟨0, hC, .inr ⟨rfl, .inr ⟨by omega, .inl ⟨?_, rfl⟩⟩⟩⟩, fun hz => ?_⟩
    · have g := j2 (by omega)
      have m1 := LoM_mono (t := -10000000000) (tl := tlP a0 a1 a3 a6 a7 a10 a9 a11 a8 a13) (i := J + 1) (a14 - a13).toNat (by omega)
      have m2 := HiM_mono (t := 20000000000) (th := thP a0 a2 a4 a6 a7 a10 a9 a12 a8 a13) (i := J + 1) (a14 - a13).toNat (by omega)
      omega
    · obtain rfl : J = (a14 - a13).toNat := by omega
      exact ⟨0, hC, .inr ⟨rfl, .inr ⟨by omega, .inr ⟨j3 (by omega), rfl⟩⟩⟩⟩
end
end Go.Proofs.Ythagjhadjpangaa.Cx

/- Package die: bounds of targets that are wide enough. -/
namespace Go.Proofs.Ythagjhadjpangaa.Cx
set_option linter.unusedVariables false
set_option linter.unusedSimpArgs false
set_option maxRecDepth 100000
set_option maxHeartbeats 4000000
open Go Go.RowKit
section
variable {a0 : Bool} {a1 a2 a3 a4 : Int} {a5 : Nat} {a6 a7 : Nat → Int} {a8 : Nat} {a9 a10 a11 a12 : Nat → Int} {a13 a14 : Int}
theorem LoM_floor {t t' : Int} {tl : Nat → Int} (ht : t' ≤ t) : ∀ n, LoM t tl n = max t (LoM t' tl n)
  | 0 => by simp only [LoM]; omega
  | n + 1 => by rw [LoM, LoM, LoM_floor ht n]; omega
theorem HiM_ceil {t t' : Int} {th : Nat → Int} (ht : t ≤ t') : ∀ n, HiM t th n = min t (HiM t' th n)
  | 0 => by simp only [HiM]; omega
  | n + 1 => by rw [HiM, HiM, HiM_ceil ht n]; omega
/-- Bounds of targets that are wide enough do not matter. -/
theorem JobOk.lo (h : JobOk a1 a2 a3 a4 a5 a6 a7 a8 a9 a10 a11 a12) (h0 : 0 ≤ a13) (h1 : a13 < PS a9 a8) (n : Nat) : LoM (-10000000000) (tlP a0 a1 a3 a6 a7 a10 a9 a11 a8 a13) (n + 1) = LoM (-1152921504606846976) (tlP a0 a1 a3 a6 a7 a10 a9 a11 a8 a13) (n + 1) := by
  have t := (h.at' h0 h1).2.2.1
  obtain ⟨_, _, s1, s2⟩ := h.tool
  unfold VOk at s1 s2
  have e : tlP a0 a1 a3 a6 a7 a10 a9 a11 a8 a13 0 = a11 (ordK a9 a8 a13) - a1 - a3 := by
    unfold tlP gL
    simp only [WSum]
    rw [show a13 + ((0 : Nat) : Int) = a13 by omega]
    cases a0 <;> simp only [cond_true, cond_false] <;> omega
  have m := LoM_mono (t := -1152921504606846976) (tl := tlP a0 a1 a3 a6 a7 a10 a9 a11 a8 a13) (i := 1) (n + 1) (by omega)
  have m1 : LoM (-1152921504606846976) (tlP a0 a1 a3 a6 a7 a10 a9 a11 a8 a13) 1 = max (-1152921504606846976) (tlP a0 a1 a3 a6 a7 a10 a9 a11 a8 a13 0) := rfl
  rw [m1, e] at m
  rw [LoM_floor (t := -10000000000) (t' := -1152921504606846976) (by omega)]
  omega
theorem JobOk.hi (h : JobOk a1 a2 a3 a4 a5 a6 a7 a8 a9 a10 a11 a12) (h0 : 0 ≤ a13) (h1 : a13 < PS a9 a8) (n : Nat) : HiM 20000000000 (thP a0 a2 a4 a6 a7 a10 a9 a12 a8 a13) (n + 1) = HiM 1152921504606846976 (thP a0 a2 a4 a6 a7 a10 a9 a12 a8 a13) (n + 1) := by
  have t := (h.at' h0 h1).2.2.1
  obtain ⟨_, _, s1, s2⟩ := h.tool
  unfold VOk at s1 s2
  have e : thP a0 a2 a4 a6 a7 a10 a9 a12 a8 a13 0 = a12 (ordK a9 a8 a13) - a2 - a4 := by
    unfold thP gH
    simp only [WSum]
    rw [show a13 + ((0 : Nat) : Int) = a13 by omega]
    cases a0 <;> simp only [cond_true, cond_false] <;> omega
  have m := HiM_mono (t := 1152921504606846976) (th := thP a0 a2 a4 a6 a7 a10 a9 a12 a8 a13) (i := 1) (n + 1) (by omega)
  have m1 : HiM 1152921504606846976 (thP a0 a2 a4 a6 a7 a10 a9 a12 a8 a13) 1 = min 1152921504606846976 (thP a0 a2 a4 a6 a7 a10 a9 a12 a8 a13 0) := rfl
  rw [m1, e] at m
  rw [HiM_ceil (t := 20000000000) (t' := 1152921504606846976) (by omega)]
  omega
end
end Go.Proofs.Ythagjhadjpangaa.Cx

/- acme/die.Reach as an automaton. Made by tools/cxauto.py. -/
namespace Go.Proofs.Ythagjhadjpangaa.Cx
set_option linter.unusedVariables false
set_option linter.unusedSimpArgs false
set_option maxRecDepth 100000
open Go Go.Proofs Go.RowKit
noncomputable abbrev draCode : Code := funcCode Try.f25
abbrev draN := Empty
abbrev draR := Int × Int
noncomputable def draD0 (a0 : Bool) (a1 a2 a3 a4 : Int) (a5 : Nat) (a6 a7 : Nat → Int) (a8 : Nat) (a9 a10 a11 a12 : Nat → Int) (a13 : Int) : DD (Lf draN draR) :=
 let z0 := fun i => [CV.int IntKind.i64 (IE.x (a6 (0 + i))), CV.int IntKind.i64 (IE.x (a7 (0 + i)))]
 let z1 := fun i => [CV.int IntKind.i64 (IE.x (a9 (0 + i))), CV.int IntKind.i64 (IE.x (a10 (0 + i))), CV.int IntKind.i64 (IE.x (a11 (0 + i))), CV.int IntKind.i64 (IE.x (a12 (0 + i)))]
 let z2 := fun i => a6 (0 + i)
 let z3 := fun i => a7 (0 + i)
 let z4 := fun i => a9 (0 + i)
 let z5 := fun i => a10 (0 + i)
 let z6 := fun i => a11 (0 + i)
 let z7 := fun i => a12 (0 + i)
 let z8 := dshA a0 a1 a2 a3 a4 a5 z2 z3 a8 z4 z5 z6 z7
 let z9 := AF.val z8
 let z10 := dshw7 z9
 let z11 := dshw5 z9
 let z12 := dshw6 z9
 let z13 := drcA (dshw0 z9) (dshw1 z9) (dshw2 z9) (dshw3 z9) (dshw4 z9) z11 z2 z3 z12 z4 z5 z6 z7 z10 (-10000000000) 20000000000 a13 z10
 .must (decide (0 + a5 ≤ a5))
   (.must (ShapeOk [some IntKind.i64, some IntKind.i64] (tabOf a5 z0) z0)
   (.must (decide (0 + a8 ≤ a8))
   (.must (ShapeOk [some IntKind.i64, some IntKind.i64, some IntKind.i64, some IntKind.i64] (tabOf a8 z1) z1)
   (.must (AF.fin z8)
   (.ask (Cm.run .neq (dshw8 z9) 0)
   (.leaf (.done (0, dshw8 z9) []))
   (.ask (Cm.run .lss a13 0)
   (.leaf (.done (0, 3) []))
   (.ask (Cm.run .gtr a13 (Ar.run .sub .i64 z10 1))
   (.leaf (.done (0, 3) []))
   (.must (decide (0 + dshw5 z9 ≤ a5))
   (.must (ShapeOk [some IntKind.i64, some IntKind.i64] (tabOf z11 z0) z0)
   (.must (decide (0 + dshw6 z9 ≤ a8))
   (.must (ShapeOk [some IntKind.i64, some IntKind.i64, some IntKind.i64, some IntKind.i64] (tabOf z12 z1) z1)
   (.must (AF.fin z13)
   (.leaf (.done (Prod.snd (Prod.snd (AF.val z13)), 0) []))))))))))))))

noncomputable def draD (a0 : Bool) (a1 a2 a3 a4 : Int) (a5 : Nat) (a6 a7 : Nat → Int) (a8 : Nat) (a9 a10 a11 a12 : Nat → Int) (a13 : Int) : draN → DD (Lf draN draR) := fun a => nomatch a
noncomputable def draA (a0 : Bool) (a1 a2 a3 a4 : Int) (a5 : Nat) (a6 a7 : Nat → Int) (a8 : Nat) (a9 a10 a11 a12 : Nat → Int) (a13 : Int) : AF draN draR where
  code := draCode
  base := 2
  nt := 36
  m := 400
  un := []
  W := []
  h0 := [(0, ⟨.arg a5 2 (fun i => [.int .i64 (.x (a6 i)), .int .i64 (.x (a7 i))]) (fun _ => ⟨rfl, rfl⟩), 2, true, none⟩), (1, ⟨.arg a8 4 (fun i => [.int .i64 (.x (a9 i)), .int .i64 (.x (a10 i)), .int .i64 (.x (a11 i)), .int .i64 (.x (a12 i))]) (fun _ => ⟨rfl, rfl⟩), 4, true, none⟩)]
  args := [.agg [.bool (.x a0), .int .i64 (.x a1), .int .i64 (.x a2), .int .i64 (.x a3), .int .i64 (.x a4), .sla 0 2 0 a5], .sla 1 4 0 a8, .int .i64 (.x a13)]
  res := (Try.f25).results.toList
  path := fun a => nomatch a
  pd := fun a => nomatch a
  D0 := draD0 a0 a1 a2 a3 a4 a5 a6 a7 a8 a9 a10 a11 a12 a13
  D := draD a0 a1 a2 a3 a4 a5 a6 a7 a8 a9 a10 a11 a12 a13
  rc := (fun v => .tup [.int .i64 (.x v.1), .int .i64 (.x v.2)])
  rh := (fun v => [])
  rn := (fun v => 2)
  rx := (fun v => [])
  rgo := (fun _ => none)
theorem drastart (a0 : Bool) (a1 a2 a3 a4 : Int) (a5 : Nat) (a6 a7 : Nat → Int) (a8 : Nat) (a9 a10 a11 a12 : Nat → Int) (a13 : Int) : AF.edgeOk (draA a0 a1 a2 a3 a4 a5 a6 a7 a8 a9 a10 a11 a12 a13) (ctxOf Try.prog memo0) (draD0 a0 a1 a2 a3 a4 a5 a6 a7 a8 a9 a10 a11 a12 a13) (AF.run0 (draA a0 a1 a2 a3 a4 a5 a6 a7 a8 a9 a10 a11 a12 a13) (ctxOf Try.prog (memoS 67 drcP drcF drcW drcH 2 (memoP 63 dshP dshF dshW dshH 2 memo0)))) := by unfold AF.edgeOk; kernel_rfl
theorem draok (a0 : Bool) (a1 a2 a3 a4 : Int) (a5 : Nat) (a6 a7 : Nat → Int) (a8 : Nat) (a9 a10 a11 a12 : Nat → Int) (a13 : Int) : (draA a0 a1 a2 a3 a4 a5 a6 a7 a8 a9 a10 a11 a12 a13).Ok Try.prog (ctxOf Try.prog (memoS 67 drcP drcF drcW drcH 2 (memoP 63 dshP dshF dshW dshH 2 memo0))) where
  regs := by kernel_rfl
  h0 := by kernel_rfl
  start := drastart a0 a1 a2 a3 a4 a5 a6 a7 a8 a9 a10 a11 a12 a13
  node := fun a _ => nomatch a
  pd := fun a => nomatch a
  le := fun a => nomatch a
  rd := fun v => ⟨⟨fa_nil, fa_nil, fa_nil, rfl⟩, rfl⟩
  wb := rfl
theorem drahR {ρ : Env} (a0 : Bool) (a1 a2 a3 a4 : Int) (a5 : Nat) (a6 a7 : Nat → Int) (a8 : Nat) (a9 a10 a11 a12 : Nat → Int) (a13 : Int) (hM : MemoOk Try.prog (ctxOf Try.prog (memoS 67 drcP drcF drcW drcH 2 (memoP 63 dshP dshF dshW dshH 2 memo0))) ρ) : ∀ X a q n D, FxOk ρ X → X.base = (draA a0 a1 a2 a3 a4 a5 a6 a7 a8 a9 a10 a11 a12 a13).base → X.nt = (draA a0 a1 a2 a3 a4 a5 a6 a7 a8 a9 a10 a11 a12 a13).nt → X.W = (draA a0 a1 a2 a3 a4 a5 a6 a7 a8 a9 a10 a11 a12 a13).W → (draA a0 a1 a2 a3 a4 a5 a6 a7 a8 a9 a10 a11 a12 a13).rgo a = some q → q n = some D → (draA a0 a1 a2 a3 a4 a5 a6 a7 a8 a9 a10 a11 a12 a13).RangeOk Try.prog ρ X a D := AF.noRange rfl
theorem dractr {ρ : Env} (a0 : Bool) (a1 a2 a3 a4 : Int) (a5 : Nat) (a6 a7 : Nat → Int) (a8 : Nat) (a9 a10 a11 a12 : Nat → Int) (a13 : Int) {n : Nat} {v : draR} (hM : MemoOk Try.prog (ctxOf Try.prog (memoS 67 drcP drcF drcW drcH 2 (memoP 63 dshP dshF dshW dshH 2 memo0))) ρ) (hv : (draA a0 a1 a2 a3 a4 a5 a6 a7 a8 a9 a10 a11 a12 a13).run n = some v) :
    Ctr Try.prog ρ 25 (draA a0 a1 a2 a3 a4 a5 a6 a7 a8 a9 a10 a11 a12 a13).args (draA a0 a1 a2 a3 a4 a5 a6 a7 a8 a9 a10 a11 a12 a13).H0 (draA a0 a1 a2 a3 a4 a5 a6 a7 a8 a9 a10 a11 a12 a13).base (draA a0 a1 a2 a3 a4 a5 a6 a7 a8 a9 a10 a11 a12 a13).W ((draA a0 a1 a2 a3 a4 a5 a6 a7 a8 a9 a10 a11 a12 a13).rc v) (putH (draA a0 a1 a2 a3 a4 a5 a6 a7 a8 a9 a10 a11 a12 a13).H0 ((draA a0 a1 a2 a3 a4 a5 a6 a7 a8 a9 a10 a11 a12 a13).rh v ++ (draA a0 a1 a2 a3 a4 a5 a6 a7 a8 a9 a10 a11 a12 a13).rx v)) ((draA a0 a1 a2 a3 a4 a5 a6 a7 a8 a9 a10 a11 a12 a13).rn v) :=
  AF.ctr try_ok hM (draok a0 a1 a2 a3 a4 a5 a6 a7 a8 a9 a10 a11 a12 a13) (fn := Try.f25) Try.func25 rfl rfl (Nat.le_of_ble_eq_true rfl) rfl (drahR a0 a1 a2 a3 a4 a5 a6 a7 a8 a9 a10 a11 a12 a13 hM) hv
theorem dramem {ρ : Env} : MemoOk Try.prog (ctxOf Try.prog (memoS 67 drcP drcF drcW drcH 2 (memoP 63 dshP dshF dshW dshH 2 memo0))) ρ := (memoS_ok (drcknown drcmem) (memoP_ok (dshknown dshmem) memo0_ok))
abbrev draP : List AQ := [.agg [.bool, .int .i64, .int .i64, .int .i64, .int .i64, .rows [some .i64, some .i64]], .rows [some .i64, some .i64, some .i64, some .i64], .int .i64]
noncomputable def draF (v : AW) : AF draN draR := draA (v.b.getD 0 false) (v.i.getD 0 0) (v.i.getD 1 0) (v.i.getD 2 0) (v.i.getD 3 0) (v.t.getD 0 .none).n ((v.t.getD 0 .none).c 0) ((v.t.getD 0 .none).c 1) (v.t.getD 1 .none).n ((v.t.getD 1 .none).c 0) ((v.t.getD 1 .none).c 1) ((v.t.getD 1 .none).c 2) ((v.t.getD 1 .none).c 3) (v.i.getD 4 0)
noncomputable def draW : draR → CV := fun v => .tup [.int .i64 (.x v.1), .int .i64 (.x v.2)]
noncomputable def draH : draR → List (Nat × Blk) := fun v => []
instance : Inhabited draR := ⟨(0, 0)⟩
theorem draknown {ρ : Env} (hM : MemoOk Try.prog (ctxOf Try.prog (memoS 67 drcP drcF drcW drcH 2 (memoP 63 dshP dshF dshW dshH 2 memo0))) ρ) : KnownS Try.prog ρ 25 draP draF draW draH 2 where
  fn := ⟨Try.f25, Try.func25, rfl⟩
  le := Nat.le_of_ble_eq_true rfl
  full := fun r => rfl
  rg := fun r => rfl
  hg := fun r => fa_nil
  ctr := fun v n r h => dractr (v.b.getD 0 false) (v.i.getD 0 0) (v.i.getD 1 0) (v.i.getD 2 0) (v.i.getD 3 0) (v.t.getD 0 .none).n ((v.t.getD 0 .none).c 0) ((v.t.getD 0 .none).c 1) (v.t.getD 1 .none).n ((v.t.getD 1 .none).c 0) ((v.t.getD 1 .none).c 1) ((v.t.getD 1 .none).c 2) ((v.t.getD 1 .none).c 3) (v.i.getD 4 0) hM h
end Go.Proofs.Ythagjhadjpangaa.Cx

/- acme/acmeref07.Reach as an automaton. Made by tools/cxauto.py. -/
namespace Go.Proofs.Ythagjhadjpangaa.Cx
set_option linter.unusedVariables false
set_option linter.unusedSimpArgs false
set_option maxRecDepth 100000
open Go Go.Proofs Go.RowKit
noncomputable abbrev rdrCode : Code := funcCode Try.f28
inductive rdrN where
  | n0 (p0 : Int)
abbrev rdrR := Int
noncomputable def rdrD0 (a0 : Bool) (a1 a2 a3 a4 : Int) (a5 : Nat) (a6 a7 : Nat → Int) (a8 : Nat) (a9 a10 a11 a12 : Nat → Int) (a13 : Int) : DD (Lf rdrN rdrR) :=
 .leaf (.next (.n0 a13) [2])

noncomputable def rdrD (a0 : Bool) (a1 a2 a3 a4 : Int) (a5 : Nat) (a6 a7 : Nat → Int) (a8 : Nat) (a9 a10 a11 a12 : Nat → Int) (a13 : Int) : rdrN → DD (Lf rdrN rdrR)
 | .n0 p0 =>
 let z0 := decide (0 + a8 ≤ a8)
 let z1 := fun i => [CV.int IntKind.i64 (IE.x (a9 (0 + i))), CV.int IntKind.i64 (IE.x (a10 (0 + i))), CV.int IntKind.i64 (IE.x (a11 (0 + i))), CV.int IntKind.i64 (IE.x (a12 (0 + i)))]
 let z2 := ShapeOk [some IntKind.i64, some IntKind.i64, some IntKind.i64, some IntKind.i64] (tabOf a8 z1) z1
 let z3 := fun i => a9 (0 + i)
 let z4 := fun i => a10 (0 + i)
 let z5 := fun i => a11 (0 + i)
 let z6 := fun i => a12 (0 + i)
 let z7 := rdaA a8 z3 z4 z5 z6
 let z8 := fun i => [CV.int IntKind.i64 (IE.x (a6 (0 + i))), CV.int IntKind.i64 (IE.x (a7 (0 + i)))]
 let z9 := Ar.run .add .i64 p0 1
 let z10 := rdtA a0 a1 a2 a3 a4 a5 (fun i => a6 (0 + i)) (fun i => a7 (0 + i)) a8 z3 z4 z5 z6 a13 z9
 let z11 := AF.val z10
 .must z0
   (.must z2
   (.must (AF.fin z7)
   (.ask (Cm.run .lss p0 (AF.val z7))
   (.must (decide (0 + a5 ≤ a5))
   (.must (ShapeOk [some IntKind.i64, some IntKind.i64] (tabOf a5 z8) z8)
   (.must z0
   (.must z2
   (.must (AF.fin z10)
   (.ask (Cm.run .leq (Prod.fst z11) (Prod.snd z11))
   (.leaf (.next (.n0 z9) [2]))
   (.leaf (.done p0 []))))))))
   (.leaf (.done p0 [])))))

noncomputable def rdrA (a0 : Bool) (a1 a2 a3 a4 : Int) (a5 : Nat) (a6 a7 : Nat → Int) (a8 : Nat) (a9 a10 a11 a12 : Nat → Int) (a13 : Int) : AF rdrN rdrR where
  code := rdrCode
  base := 2
  nt := 24
  m := 400
  un := []
  W := []
  h0 := [(0, ⟨.arg a5 2 (fun i => [.int .i64 (.x (a6 i)), .int .i64 (.x (a7 i))]) (fun _ => ⟨rfl, rfl⟩), 2, true, none⟩), (1, ⟨.arg a8 4 (fun i => [.int .i64 (.x (a9 i)), .int .i64 (.x (a10 i)), .int .i64 (.x (a11 i)), .int .i64 (.x (a12 i))]) (fun _ => ⟨rfl, rfl⟩), 4, true, none⟩)]
  args := [.agg [.bool (.x a0), .int .i64 (.x a1), .int .i64 (.x a2), .int .i64 (.x a3), .int .i64 (.x a4), .sla 0 2 0 a5], .sla 1 4 0 a8, .int .i64 (.x a13)]
  res := (Try.f28).results.toList
  path := fun a => match a with
   | .n0 p0 => [1, 1, 0, 0]
  pd := fun a => match a with
   | .n0 p0 => ⟨[(1, .sla 1 4 0 a8), (2, .int .i64 (.x a13)), (3, .ptr (some (2, 0))), (7, .int .i64 (.x p0))], [(2, ⟨.lit [.bool (.x a0), .int .i64 (.x a1), .int .i64 (.x a2), .int .i64 (.x a3), .int .i64 (.x a4), .sla 0 2 0 a5], 0, true, none⟩)], 3, []⟩
  D0 := rdrD0 a0 a1 a2 a3 a4 a5 a6 a7 a8 a9 a10 a11 a12 a13
  D := rdrD a0 a1 a2 a3 a4 a5 a6 a7 a8 a9 a10 a11 a12 a13
  rc := (fun v => .int .i64 (.x v))
  rh := (fun v => [])
  rn := (fun v => 2)
  rx := (fun v => [])
  rgo := (fun _ => none)
instance : Inhabited rdrR := ⟨0⟩
end Go.Proofs.Ythagjhadjpangaa.Cx

/- acme/die.Plan as an automaton. Made by tools/cxauto.py. -/
namespace Go.Proofs.Ythagjhadjpangaa.Cx
set_option linter.unusedVariables false
set_option linter.unusedSimpArgs false
set_option maxRecDepth 100000
open Go Go.Proofs Go.RowKit
noncomputable abbrev dplCode : Code := funcCode Try.f26
noncomputable abbrev dpls0Code : Code := funcCode Try.f92
inductive dpls0N where
  | n0
  | n1 (q0 : Int) (q1 : Nat) (q2 q3 : Nat → Int)
inductive dpls0R where
  | r0
  | r1 (q0 : Nat) (q1 : Int) (q2 q3 : Nat → Int)
noncomputable def dpls0D0 (a0 : Bool) (a1 a2 a3 a4 : Int) (a5 : Nat) (a6 a7 : Nat → Int) (a8 : Nat) (a9 a10 a11 a12 : Nat → Int) (p0 : Bool) (p1 p2 p3 p4 : Int) (p5 p6 : Nat) (p7 : Int) : DD (Lf dpls0N dpls0R) :=
 .leaf (.next (.n0) [])

noncomputable def dpls0D (a0 : Bool) (a1 a2 a3 a4 : Int) (a5 : Nat) (a6 a7 : Nat → Int) (a8 : Nat) (a9 a10 a11 a12 : Nat → Int) (p0 : Bool) (p1 p2 p3 p4 : Int) (p5 p6 : Nat) (p7 : Int) : dpls0N → DD (Lf dpls0N dpls0R)
 | .n0 =>
 let z0 := fun i => [CV.int IntKind.i64 (IE.x (a6 (0 + i))), CV.int IntKind.i64 (IE.x (a7 (0 + i)))]
 let z1 := fun i => [CV.int IntKind.i64 (IE.x (a9 (0 + i))), CV.int IntKind.i64 (IE.x (a10 (0 + i))), CV.int IntKind.i64 (IE.x (a11 (0 + i))), CV.int IntKind.i64 (IE.x (a12 (0 + i)))]
 let z2 := drcA p0 p1 p2 p3 p4 p5 (fun i => a6 (0 + i)) (fun i => a7 (0 + i)) p6 (fun i => a9 (0 + i)) (fun i => a10 (0 + i)) (fun i => a11 (0 + i)) (fun i => a12 (0 + i)) p7 (-10000000000) 20000000000 0 p7
 let z3 := AF.val z2
 let z4 := Prod.snd (Prod.snd z3)
 .ask (Cm.run .lss 0 p7)
   (.must (decide (0 + p5 ≤ a5))
   (.must (ShapeOk [some IntKind.i64, some IntKind.i64] (tabOf p5 z0) z0)
   (.must (decide (0 + p6 ≤ a8))
   (.must (ShapeOk [some IntKind.i64, some IntKind.i64, some IntKind.i64, some IntKind.i64] (tabOf p6 z1) z1)
   (.must (AF.fin z2)
   (.ask (Cm.run .eql z4 0)
   (.leaf (.done (.r0) []))
   (.leaf (.next (.n1 z4 1 (fun i => 0) (fun i => Prod.fst z3)) [11]))))))))
   (.leaf (.done (.r0) []))
 | .n1 q0 q1 q2 q3 =>
 let z0 := fun i => [CV.int IntKind.i64 (IE.x (a6 (0 + i))), CV.int IntKind.i64 (IE.x (a7 (0 + i)))]
 let z1 := fun i => [CV.int IntKind.i64 (IE.x (a9 (0 + i))), CV.int IntKind.i64 (IE.x (a10 (0 + i))), CV.int IntKind.i64 (IE.x (a11 (0 + i))), CV.int IntKind.i64 (IE.x (a12 (0 + i)))]
 let z2 := drcA p0 p1 p2 p3 p4 p5 (fun i => a6 (0 + i)) (fun i => a7 (0 + i)) p6 (fun i => a9 (0 + i)) (fun i => a10 (0 + i)) (fun i => a11 (0 + i)) (fun i => a12 (0 + i)) p7 (-10000000000) 20000000000 q0 p7
 let z3 := AF.val z2
 let z4 := Prod.snd (Prod.snd z3)
 .ask (Cm.run .lss q0 p7)
   (.must (decide (0 + p5 ≤ a5))
   (.must (ShapeOk [some IntKind.i64, some IntKind.i64] (tabOf p5 z0) z0)
   (.must (decide (0 + p6 ≤ a8))
   (.must (ShapeOk [some IntKind.i64, some IntKind.i64, some IntKind.i64, some IntKind.i64] (tabOf p6 z1) z1)
   (.must (AF.fin z2)
   (.ask (Cm.run .eql z4 q0)
   (.leaf (.done (.r1 q1 q0 (fun i => q2 i) (fun i => q3 i)) [7]))
   (.must (decide (0 + q1 ≤ q1))
   (.must (decide (q1 + 1 ≤ 10000))
   (.leaf (.next (.n1 z4 (q1 + 1) (fun i => bif Nat.blt i q1 then q2 (0 + i) else q0) (fun i => bif Nat.blt i q1 then q3 (0 + i) else Prod.fst z3)) [12]))))))))))
   (.leaf (.done (.r1 q1 q0 (fun i => q2 i) (fun i => q3 i)) [7]))

noncomputable def dpls0A (a0 : Bool) (a1 a2 a3 a4 : Int) (a5 : Nat) (a6 a7 : Nat → Int) (a8 : Nat) (a9 a10 a11 a12 : Nat → Int) (p0 : Bool) (p1 p2 p3 p4 : Int) (p5 p6 : Nat) (p7 : Int) : AF dpls0N dpls0R where
  code := dpls0Code
  base := 7
  nt := 33
  m := 400
  un := []
  W := [3, 4, 6]
  h0 := ((6, recB (mkT [(6, .ptr (some (2, 0))), (8, .ptr (some (3, 0))), (9, .ptr (some (4, 0))), (22, .fn (.func 92) [] [.ptr (some (5, 0))])]) 35 (rgP (codeAt dplCode [1, 1, 1, 1, 1, 0, 1, 0])) (rgA (codeAt dplCode [1, 1, 1, 1, 1, 0, 1, 0])) (rgB (codeAt dplCode [1, 1, 1, 1, 1, 0, 1, 0]))) :: (([(2, ⟨.lit [.bool (.x p0), .int .i64 (.x p1), .int .i64 (.x p2), .int .i64 (.x p3), .int .i64 (.x p4), .sla 0 2 0 p5, .sla 1 4 0 p6, .int .i64 (.x p7)], 0, true, none⟩), (3, ⟨.lit [.slc none 0 0], 0, true, none⟩), (4, ⟨.lit [.int .i64 (.x 0)], 0, true, none⟩), (5, ⟨.lit [.bool (.x p0), .int .i64 (.x p1), .int .i64 (.x p2), .int .i64 (.x p3), .int .i64 (.x p4), .sla 0 2 0 p5, .sla 1 4 0 p6, .int .i64 (.x p7)], 0, true, none⟩)] ++ []) ++ [(0, ⟨.arg a5 2 (fun i => [.int .i64 (.x (a6 i)), .int .i64 (.x (a7 i))]) (fun _ => ⟨rfl, rfl⟩), 2, true, none⟩), (1, ⟨.arg a8 4 (fun i => [.int .i64 (.x (a9 i)), .int .i64 (.x (a10 i)), .int .i64 (.x (a11 i)), .int .i64 (.x (a12 i))]) (fun _ => ⟨rfl, rfl⟩), 4, true, none⟩)]))
  args := [.yld 6, .ptr (some (5, 0))]
  res := (Try.f92).results.toList
  path := fun a => match a with
   | .n0 => [1, 0]
   | .n1 q0 q1 q2 q3 => [1, 0]
  pd := fun a => match a with
   | .n0 => ⟨[(0, .yld 6), (1, .ptr (some (5, 0))), (3, .int .i64 (.x 0))], [(3, ⟨.lit [.slc none 0 0], 0, true, none⟩), (4, ⟨.lit [.int .i64 (.x 0)], 0, true, none⟩)], 7, [(6, recS (mkT [(6, .ptr (some (2, 0))), (8, .ptr (some (3, 0))), (9, .ptr (some (4, 0))), (22, .fn (.func 92) [] [.ptr (some (5, 0))])]) 35 (rgP (codeAt dplCode [1, 1, 1, 1, 1, 0, 1, 0])) (rgA (codeAt dplCode [1, 1, 1, 1, 1, 0, 1, 0])) (rgB (codeAt dplCode [1, 1, 1, 1, 1, 0, 1, 0])) (.ready) (.none))]⟩
   | .n1 q0 q1 q2 q3 => ⟨[(0, .yld 6), (1, .ptr (some (5, 0))), (3, .int .i64 (.x q0))], [(3, ⟨.lit [.slx 7 2 0 q1 q1], 0, true, none⟩), (4, ⟨.lit [.int .i64 (.x q0)], 0, true, none⟩), (7, ⟨.rows q1 2 (fun i => [.int .i64 (.x (q2 i)), .int .i64 (.x (q3 i))]) (fun _ => ⟨rfl, rfl⟩), 2, true, none⟩)], 8, [(6, recS (mkT [(6, .ptr (some (2, 0))), (8, .ptr (some (3, 0))), (9, .ptr (some (4, 0))), (22, .fn (.func 92) [] [.ptr (some (5, 0))])]) 35 (rgP (codeAt dplCode [1, 1, 1, 1, 1, 0, 1, 0])) (rgA (codeAt dplCode [1, 1, 1, 1, 1, 0, 1, 0])) (rgB (codeAt dplCode [1, 1, 1, 1, 1, 0, 1, 0])) (.ready) (.none))]⟩
  D0 := dpls0D0 a0 a1 a2 a3 a4 a5 a6 a7 a8 a9 a10 a11 a12 p0 p1 p2 p3 p4 p5 p6 p7
  D := dpls0D a0 a1 a2 a3 a4 a5 a6 a7 a8 a9 a10 a11 a12 p0 p1 p2 p3 p4 p5 p6 p7
  rc := (fun v => match v with
 | .r0 => .tup []
 | .r1 q0 q1 q2 q3 => .tup [])
  rh := (fun v => match v with
 | .r0 => [(3, ⟨.lit [.slc none 0 0], 0, true, none⟩), (4, ⟨.lit [.int .i64 (.x 0)], 0, true, none⟩)]
 | .r1 q0 q1 q2 q3 => [(3, ⟨.lit [.slx 7 2 0 q0 q0], 0, true, none⟩), (4, ⟨.lit [.int .i64 (.x q1)], 0, true, none⟩), (7, ⟨.rows q0 2 (fun i => [.int .i64 (.x (q2 i)), .int .i64 (.x (q3 i))]) (fun _ => ⟨rfl, rfl⟩), 2, true, none⟩)])
  rn := (fun v => match v with
 | .r0 => 7
 | .r1 q0 q1 q2 q3 => 8)
  rx := (fun v => match v with
 | .r0 => [(6, recS (mkT [(6, .ptr (some (2, 0))), (8, .ptr (some (3, 0))), (9, .ptr (some (4, 0))), (22, .fn (.func 92) [] [.ptr (some (5, 0))])]) 35 (rgP (codeAt dplCode [1, 1, 1, 1, 1, 0, 1, 0])) (rgA (codeAt dplCode [1, 1, 1, 1, 1, 0, 1, 0])) (rgB (codeAt dplCode [1, 1, 1, 1, 1, 0, 1, 0])) (.ready) (.none))]
 | .r1 q0 q1 q2 q3 => [(6, recS (mkT [(6, .ptr (some (2, 0))), (8, .ptr (some (3, 0))), (9, .ptr (some (4, 0))), (22, .fn (.func 92) [] [.ptr (some (5, 0))])]) 35 (rgP (codeAt dplCode [1, 1, 1, 1, 1, 0, 1, 0])) (rgA (codeAt dplCode [1, 1, 1, 1, 1, 0, 1, 0])) (rgB (codeAt dplCode [1, 1, 1, 1, 1, 0, 1, 0])) (.ready) (.none))])
  rgo := (fun _ => none)
theorem dpls0start (a0 : Bool) (a1 a2 a3 a4 : Int) (a5 : Nat) (a6 a7 : Nat → Int) (a8 : Nat) (a9 a10 a11 a12 : Nat → Int) (p0 : Bool) (p1 p2 p3 p4 : Int) (p5 p6 : Nat) (p7 : Int) : AF.edgeOk (dpls0A a0 a1 a2 a3 a4 a5 a6 a7 a8 a9 a10 a11 a12 p0 p1 p2 p3 p4 p5 p6 p7) (ctxOf Try.prog memo0) (dpls0D0 a0 a1 a2 a3 a4 a5 a6 a7 a8 a9 a10 a11 a12 p0 p1 p2 p3 p4 p5 p6 p7) (AF.run0 (dpls0A a0 a1 a2 a3 a4 a5 a6 a7 a8 a9 a10 a11 a12 p0 p1 p2 p3 p4 p5 p6 p7) (ctxOf Try.prog (memoS 67 drcP drcF drcW drcH 2 (memoP 63 dshP dshF dshW dshH 2 memo0)))) := by unfold AF.edgeOk; kernel_rfl
theorem dpls0node0 (a0 : Bool) (a1 a2 a3 a4 : Int) (a5 : Nat) (a6 a7 : Nat → Int) (a8 : Nat) (a9 a10 a11 a12 : Nat → Int) (p0 : Bool) (p1 p2 p3 p4 : Int) (p5 p6 : Nat) (p7 : Int) : AF.edgeOk (dpls0A a0 a1 a2 a3 a4 a5 a6 a7 a8 a9 a10 a11 a12 p0 p1 p2 p3 p4 p5 p6 p7) (ctxOf Try.prog memo0) (dpls0D a0 a1 a2 a3 a4 a5 a6 a7 a8 a9 a10 a11 a12 p0 p1 p2 p3 p4 p5 p6 p7 (.n0)) (AF.runN (dpls0A a0 a1 a2 a3 a4 a5 a6 a7 a8 a9 a10 a11 a12 p0 p1 p2 p3 p4 p5 p6 p7) (ctxOf Try.prog (memoS 67 drcP drcF drcW drcH 2 (memoP 63 dshP dshF dshW dshH 2 memo0))) (.n0)) := by unfold AF.edgeOk; kernel_rfl
theorem dpls0node1 (a0 : Bool) (a1 a2 a3 a4 : Int) (a5 : Nat) (a6 a7 : Nat → Int) (a8 : Nat) (a9 a10 a11 a12 : Nat → Int) (p0 : Bool) (p1 p2 p3 p4 : Int) (p5 p6 : Nat) (p7 q0 : Int) (q1 : Nat) (q2 q3 : Nat → Int) : AF.edgeOk (dpls0A a0 a1 a2 a3 a4 a5 a6 a7 a8 a9 a10 a11 a12 p0 p1 p2 p3 p4 p5 p6 p7) (ctxOf Try.prog memo0) (dpls0D a0 a1 a2 a3 a4 a5 a6 a7 a8 a9 a10 a11 a12 p0 p1 p2 p3 p4 p5 p6 p7 (.n1 q0 q1 q2 q3)) (AF.runN (dpls0A a0 a1 a2 a3 a4 a5 a6 a7 a8 a9 a10 a11 a12 p0 p1 p2 p3 p4 p5 p6 p7) (ctxOf Try.prog (memoS 67 drcP drcF drcW drcH 2 (memoP 63 dshP dshF dshW dshH 2 memo0))) (.n1 q0 q1 q2 q3)) := by unfold AF.edgeOk; kernel_rfl
theorem dpls0ok (a0 : Bool) (a1 a2 a3 a4 : Int) (a5 : Nat) (a6 a7 : Nat → Int) (a8 : Nat) (a9 a10 a11 a12 : Nat → Int) (p0 : Bool) (p1 p2 p3 p4 : Int) (p5 p6 : Nat) (p7 : Int) : (dpls0A a0 a1 a2 a3 a4 a5 a6 a7 a8 a9 a10 a11 a12 p0 p1 p2 p3 p4 p5 p6 p7).Ok Try.prog (ctxOf Try.prog (memoS 67 drcP drcF drcW drcH 2 (memoP 63 dshP dshF dshW dshH 2 memo0))) where
  regs := by kernel_rfl
  h0 := by kernel_rfl
  start := dpls0start a0 a1 a2 a3 a4 a5 a6 a7 a8 a9 a10 a11 a12 p0 p1 p2 p3 p4 p5 p6 p7
  node := fun a _ => match a with
   | .n0 => dpls0node0 a0 a1 a2 a3 a4 a5 a6 a7 a8 a9 a10 a11 a12 p0 p1 p2 p3 p4 p5 p6 p7
   | .n1 q0 q1 q2 q3 => dpls0node1 a0 a1 a2 a3 a4 a5 a6 a7 a8 a9 a10 a11 a12 p0 p1 p2 p3 p4 p5 p6 p7 q0 q1 q2 q3
  pd := fun a => match a with
   | .n0 => ⟨(fa_cons rfl (fa_cons rfl (fa_cons rfl fa_nil))), (fa_cons ⟨.inr (memW rfl), rfl, rfl⟩ (fa_cons ⟨.inr (memW rfl), rfl, rfl⟩ fa_nil)), (fa_cons ⟨memW rfl, RecOk.of rfl⟩ fa_nil), rfl⟩
   | .n1 q0 q1 q2 q3 => ⟨(fa_cons rfl (fa_cons rfl (fa_cons rfl fa_nil))), (fa_cons ⟨.inr (memW rfl), rfl, rfl⟩ (fa_cons ⟨.inr (memW rfl), rfl, rfl⟩ (fa_cons ⟨.inl (Nat.le_of_ble_eq_true rfl), (fun _ => rfl), rfl⟩ fa_nil))), (fa_cons ⟨memW rfl, RecOk.of rfl⟩ fa_nil), rfl⟩
  le := fun a => match a with
   | .n0 => Nat.le_of_ble_eq_true rfl
   | .n1 q0 q1 q2 q3 => Nat.le_of_ble_eq_true rfl
  rd := fun v => match v with
   | .r0 => ⟨⟨fa_nil, (fa_cons ⟨.inr (memW rfl), rfl, rfl⟩ (fa_cons ⟨.inr (memW rfl), rfl, rfl⟩ fa_nil)), (fa_cons ⟨memW rfl, RecOk.of rfl⟩ fa_nil), rfl⟩, rfl⟩
   | .r1 q0 q1 q2 q3 => ⟨⟨fa_nil, (fa_cons ⟨.inr (memW rfl), rfl, rfl⟩ (fa_cons ⟨.inr (memW rfl), rfl, rfl⟩ (fa_cons ⟨.inl (Nat.le_of_ble_eq_true rfl), (fun _ => rfl), rfl⟩ fa_nil))), (fa_cons ⟨memW rfl, RecOk.of rfl⟩ fa_nil), rfl⟩, rfl⟩
  wb := rfl
theorem dpls0hR {ρ : Env} (a0 : Bool) (a1 a2 a3 a4 : Int) (a5 : Nat) (a6 a7 : Nat → Int) (a8 : Nat) (a9 a10 a11 a12 : Nat → Int) (p0 : Bool) (p1 p2 p3 p4 : Int) (p5 p6 : Nat) (p7 : Int) (hM : MemoOk Try.prog (ctxOf Try.prog (memoS 67 drcP drcF drcW drcH 2 (memoP 63 dshP dshF dshW dshH 2 memo0))) ρ) : ∀ X a q n D, FxOk ρ X → X.base = (dpls0A a0 a1 a2 a3 a4 a5 a6 a7 a8 a9 a10 a11 a12 p0 p1 p2 p3 p4 p5 p6 p7).base → X.nt = (dpls0A a0 a1 a2 a3 a4 a5 a6 a7 a8 a9 a10 a11 a12 p0 p1 p2 p3 p4 p5 p6 p7).nt → X.W = (dpls0A a0 a1 a2 a3 a4 a5 a6 a7 a8 a9 a10 a11 a12 p0 p1 p2 p3 p4 p5 p6 p7).W → (dpls0A a0 a1 a2 a3 a4 a5 a6 a7 a8 a9 a10 a11 a12 p0 p1 p2 p3 p4 p5 p6 p7).rgo a = some q → q n = some D → (dpls0A a0 a1 a2 a3 a4 a5 a6 a7 a8 a9 a10 a11 a12 p0 p1 p2 p3 p4 p5 p6 p7).RangeOk Try.prog ρ X a D := AF.noRange rfl
inductive dplN where
  | n0 (p0 : Bool) (p1 p2 p3 p4 : Int) (p5 p6 : Nat) (p7 : Int)
inductive dplR where
  | r0 (p0 : Int)
  | r1 (p0 : Nat) (p1 p2 : Nat → Int)
noncomputable def dplD0 (a0 : Bool) (a1 a2 a3 a4 : Int) (a5 : Nat) (a6 a7 : Nat → Int) (a8 : Nat) (a9 a10 a11 a12 : Nat → Int) : DD (Lf dplN dplR) :=
 let z0 := fun i => [CV.int IntKind.i64 (IE.x (a6 (0 + i))), CV.int IntKind.i64 (IE.x (a7 (0 + i)))]
 let z1 := fun i => [CV.int IntKind.i64 (IE.x (a9 (0 + i))), CV.int IntKind.i64 (IE.x (a10 (0 + i))), CV.int IntKind.i64 (IE.x (a11 (0 + i))), CV.int IntKind.i64 (IE.x (a12 (0 + i)))]
 let z2 := dshA a0 a1 a2 a3 a4 a5 (fun i => a6 (0 + i)) (fun i => a7 (0 + i)) a8 (fun i => a9 (0 + i)) (fun i => a10 (0 + i)) (fun i => a11 (0 + i)) (fun i => a12 (0 + i))
 let z3 := AF.val z2
 let z4 := dshw8 z3
 .must (decide (0 + a5 ≤ a5))
   (.must (ShapeOk [some IntKind.i64, some IntKind.i64] (tabOf a5 z0) z0)
   (.must (decide (0 + a8 ≤ a8))
   (.must (ShapeOk [some IntKind.i64, some IntKind.i64, some IntKind.i64, some IntKind.i64] (tabOf a8 z1) z1)
   (.must (AF.fin z2)
   (.ask (Cm.run .neq z4 0)
   (.leaf (.done (.r0 z4) []))
   (.leaf (.next (.n0 (dshw0 z3) (dshw1 z3) (dshw2 z3) (dshw3 z3) (dshw4 z3) (dshw5 z3) (dshw6 z3) (dshw7 z3)) [3, 4, 5, 6])))))))

noncomputable def dplD (a0 : Bool) (a1 a2 a3 a4 : Int) (a5 : Nat) (a6 a7 : Nat → Int) (a8 : Nat) (a9 a10 a11 a12 : Nat → Int) : dplN → DD (Lf dplN dplR)
 | .n0 p0 p1 p2 p3 p4 p5 p6 p7 =>
 .dead

noncomputable def dplRg0 (a0 : Bool) (a1 a2 a3 a4 : Int) (a5 : Nat) (a6 a7 : Nat → Int) (a8 : Nat) (a9 a10 a11 a12 : Nat → Int) (p0 : Bool) (p1 p2 p3 p4 : Int) (p5 p6 : Nat) (p7 : Int) : dpls0R → DD (Lf dplN dplR)
 | .r0 =>
 .ask (Cm.run .lss 0 p7)
   (.leaf (.done (.r0 7) []))
   (.leaf (.done (.r0 0) []))
 | .r1 q0 q1 q2 q3 =>
 .ask (Cm.run .lss q1 p7)
   (.leaf (.done (.r0 7) []))
   (.leaf (.done (.r1 q0 (fun i => q2 i) (fun i => q3 i)) [7]))

noncomputable def dplA (a0 : Bool) (a1 a2 a3 a4 : Int) (a5 : Nat) (a6 a7 : Nat → Int) (a8 : Nat) (a9 a10 a11 a12 : Nat → Int) : AF dplN dplR where
  code := dplCode
  base := 2
  nt := 35
  m := 400
  un := [1000007]
  W := []
  h0 := [(0, ⟨.arg a5 2 (fun i => [.int .i64 (.x (a6 i)), .int .i64 (.x (a7 i))]) (fun _ => ⟨rfl, rfl⟩), 2, true, none⟩), (1, ⟨.arg a8 4 (fun i => [.int .i64 (.x (a9 i)), .int .i64 (.x (a10 i)), .int .i64 (.x (a11 i)), .int .i64 (.x (a12 i))]) (fun _ => ⟨rfl, rfl⟩), 4, true, none⟩)]
  args := [.agg [.bool (.x a0), .int .i64 (.x a1), .int .i64 (.x a2), .int .i64 (.x a3), .int .i64 (.x a4), .sla 0 2 0 a5], .sla 1 4 0 a8]
  res := (Try.f26).results.toList
  path := fun a => match a with
   | .n0 p0 p1 p2 p3 p4 p5 p6 p7 => [1, 1, 1, 1, 1, 0, 1, 0]
  pd := fun a => match a with
   | .n0 p0 p1 p2 p3 p4 p5 p6 p7 => ⟨[(6, .ptr (some (2, 0))), (8, .ptr (some (3, 0))), (9, .ptr (some (4, 0))), (22, .fn (.func 92) [] [.ptr (some (5, 0))])], [(2, ⟨.lit [.bool (.x p0), .int .i64 (.x p1), .int .i64 (.x p2), .int .i64 (.x p3), .int .i64 (.x p4), .sla 0 2 0 p5, .sla 1 4 0 p6, .int .i64 (.x p7)], 0, true, none⟩), (3, ⟨.lit [.slc none 0 0], 0, true, none⟩), (4, ⟨.lit [.int .i64 (.x 0)], 0, true, none⟩), (5, ⟨.lit [.bool (.x p0), .int .i64 (.x p1), .int .i64 (.x p2), .int .i64 (.x p3), .int .i64 (.x p4), .sla 0 2 0 p5, .sla 1 4 0 p6, .int .i64 (.x p7)], 0, true, none⟩)], 6, []⟩
  D0 := dplD0 a0 a1 a2 a3 a4 a5 a6 a7 a8 a9 a10 a11 a12
  D := dplD a0 a1 a2 a3 a4 a5 a6 a7 a8 a9 a10 a11 a12
  rc := (fun v => match v with
 | .r0 p0 => .tup [.slc none 0 0, .int .i64 (.x p0)]
 | .r1 p0 p1 p2 => .tup [.slx 2 2 0 p0 p0, .int .i64 (.x 0)])
  rh := (fun v => match v with
 | .r0 p0 => []
 | .r1 p0 p1 p2 => [(2, ⟨.rows p0 2 (fun i => [.int .i64 (.x (p1 i)), .int .i64 (.x (p2 i))]) (fun _ => ⟨rfl, rfl⟩), 2, true, none⟩)])
  rn := (fun v => match v with
 | .r0 p0 => 2
 | .r1 p0 p1 p2 => 3)
  rx := (fun v => match v with
 | .r0 p0 => []
 | .r1 p0 p1 p2 => [])
  rgo := (fun a => match a with
   | .n0 p0 p1 p2 p3 p4 p5 p6 p7 => some (fun n => (AF.run (dpls0A a0 a1 a2 a3 a4 a5 a6 a7 a8 a9 a10 a11 a12 p0 p1 p2 p3 p4 p5 p6 p7) n).map (dplRg0 a0 a1 a2 a3 a4 a5 a6 a7 a8 a9 a10 a11 a12 p0 p1 p2 p3 p4 p5 p6 p7)))
theorem dplstart (a0 : Bool) (a1 a2 a3 a4 : Int) (a5 : Nat) (a6 a7 : Nat → Int) (a8 : Nat) (a9 a10 a11 a12 : Nat → Int) : AF.edgeOk (dplA a0 a1 a2 a3 a4 a5 a6 a7 a8 a9 a10 a11 a12) (ctxOf Try.prog memo0) (dplD0 a0 a1 a2 a3 a4 a5 a6 a7 a8 a9 a10 a11 a12) (AF.run0 (dplA a0 a1 a2 a3 a4 a5 a6 a7 a8 a9 a10 a11 a12) (ctxOf Try.prog (memoS 67 drcP drcF drcW drcH 2 (memoP 63 dshP dshF dshW dshH 2 memo0)))) := by unfold AF.edgeOk; kernel_rfl
theorem dplok (a0 : Bool) (a1 a2 a3 a4 : Int) (a5 : Nat) (a6 a7 : Nat → Int) (a8 : Nat) (a9 a10 a11 a12 : Nat → Int) : (dplA a0 a1 a2 a3 a4 a5 a6 a7 a8 a9 a10 a11 a12).Ok Try.prog (ctxOf Try.prog (memoS 67 drcP drcF drcW drcH 2 (memoP 63 dshP dshF dshW dshH 2 memo0))) where
  regs := by kernel_rfl
  h0 := by kernel_rfl
  start := dplstart a0 a1 a2 a3 a4 a5 a6 a7 a8 a9 a10 a11 a12
  node := fun a h => match a, h with
   | .n0 p0 p1 p2 p3 p4 p5 p6 p7, h => someNe h
  pd := fun a => match a with
   | .n0 p0 p1 p2 p3 p4 p5 p6 p7 => ⟨(fa_cons rfl (fa_cons rfl (fa_cons rfl (fa_cons rfl fa_nil)))), (fa_cons ⟨.inl (Nat.le_of_ble_eq_true rfl), rfl, rfl⟩ (fa_cons ⟨.inl (Nat.le_of_ble_eq_true rfl), rfl, rfl⟩ (fa_cons ⟨.inl (Nat.le_of_ble_eq_true rfl), rfl, rfl⟩ (fa_cons ⟨.inl (Nat.le_of_ble_eq_true rfl), rfl, rfl⟩ fa_nil)))), fa_nil, rfl⟩
  le := fun a => match a with
   | .n0 p0 p1 p2 p3 p4 p5 p6 p7 => Nat.le_of_ble_eq_true rfl
  rd := fun v => match v with
   | .r0 p0 => ⟨⟨fa_nil, fa_nil, fa_nil, rfl⟩, rfl⟩
   | .r1 p0 p1 p2 => ⟨⟨fa_nil, (fa_cons ⟨.inl (Nat.le_of_ble_eq_true rfl), (fun _ => rfl), rfl⟩ fa_nil), fa_nil, rfl⟩, rfl⟩
  wb := rfl
theorem dplrg0_0 (a0 : Bool) (a1 a2 a3 a4 : Int) (a5 : Nat) (a6 a7 : Nat → Int) (a8 : Nat) (a9 a10 a11 a12 : Nat → Int) (p0 : Bool) (p1 p2 p3 p4 : Int) (p5 p6 : Nat) (p7 : Int) : AF.edgeOk (dplA a0 a1 a2 a3 a4 a5 a6 a7 a8 a9 a10 a11 a12) (ctxOf Try.prog memo0) (dplRg0 a0 a1 a2 a3 a4 a5 a6 a7 a8 a9 a10 a11 a12 p0 p1 p2 p3 p4 p5 p6 p7 (.r0)) (AF.runR (dplA a0 a1 a2 a3 a4 a5 a6 a7 a8 a9 a10 a11 a12) (ctxOf Try.prog (memoS 67 drcP drcF drcW drcH 2 (memoP 63 dshP dshF dshW dshH 2 memo0))) (.n0 p0 p1 p2 p3 p4 p5 p6 p7) (putH (dpls0A a0 a1 a2 a3 a4 a5 a6 a7 a8 a9 a10 a11 a12 p0 p1 p2 p3 p4 p5 p6 p7).H0 ((dpls0A a0 a1 a2 a3 a4 a5 a6 a7 a8 a9 a10 a11 a12 p0 p1 p2 p3 p4 p5 p6 p7).rh (.r0) ++ (dpls0A a0 a1 a2 a3 a4 a5 a6 a7 a8 a9 a10 a11 a12 p0 p1 p2 p3 p4 p5 p6 p7).rx (.r0))) ((dpls0A a0 a1 a2 a3 a4 a5 a6 a7 a8 a9 a10 a11 a12 p0 p1 p2 p3 p4 p5 p6 p7).rn (.r0)) ⟨mkT [(6, .ptr (some (2, 0))), (8, .ptr (some (3, 0))), (9, .ptr (some (4, 0))), (22, .fn (.func 92) [] [.ptr (some (5, 0))])], 35, rgP (codeAt dplCode [1, 1, 1, 1, 1, 0, 1, 0]), rgA (codeAt dplCode [1, 1, 1, 1, 1, 0, 1, 0]), rgB (codeAt dplCode [1, 1, 1, 1, 1, 0, 1, 0]), .ready, .none⟩ .normal) := by unfold AF.edgeOk; kernel_rfl
theorem dplrg0_1 (a0 : Bool) (a1 a2 a3 a4 : Int) (a5 : Nat) (a6 a7 : Nat → Int) (a8 : Nat) (a9 a10 a11 a12 : Nat → Int) (p0 : Bool) (p1 p2 p3 p4 : Int) (p5 p6 : Nat) (p7 : Int) (q0 : Nat) (q1 : Int) (q2 q3 : Nat → Int) : AF.edgeOk (dplA a0 a1 a2 a3 a4 a5 a6 a7 a8 a9 a10 a11 a12) (ctxOf Try.prog memo0) (dplRg0 a0 a1 a2 a3 a4 a5 a6 a7 a8 a9 a10 a11 a12 p0 p1 p2 p3 p4 p5 p6 p7 (.r1 q0 q1 q2 q3)) (AF.runR (dplA a0 a1 a2 a3 a4 a5 a6 a7 a8 a9 a10 a11 a12) (ctxOf Try.prog (memoS 67 drcP drcF drcW drcH 2 (memoP 63 dshP dshF dshW dshH 2 memo0))) (.n0 p0 p1 p2 p3 p4 p5 p6 p7) (putH (dpls0A a0 a1 a2 a3 a4 a5 a6 a7 a8 a9 a10 a11 a12 p0 p1 p2 p3 p4 p5 p6 p7).H0 ((dpls0A a0 a1 a2 a3 a4 a5 a6 a7 a8 a9 a10 a11 a12 p0 p1 p2 p3 p4 p5 p6 p7).rh (.r1 q0 q1 q2 q3) ++ (dpls0A a0 a1 a2 a3 a4 a5 a6 a7 a8 a9 a10 a11 a12 p0 p1 p2 p3 p4 p5 p6 p7).rx (.r1 q0 q1 q2 q3))) ((dpls0A a0 a1 a2 a3 a4 a5 a6 a7 a8 a9 a10 a11 a12 p0 p1 p2 p3 p4 p5 p6 p7).rn (.r1 q0 q1 q2 q3)) ⟨mkT [(6, .ptr (some (2, 0))), (8, .ptr (some (3, 0))), (9, .ptr (some (4, 0))), (22, .fn (.func 92) [] [.ptr (some (5, 0))])], 35, rgP (codeAt dplCode [1, 1, 1, 1, 1, 0, 1, 0]), rgA (codeAt dplCode [1, 1, 1, 1, 1, 0, 1, 0]), rgB (codeAt dplCode [1, 1, 1, 1, 1, 0, 1, 0]), .ready, .none⟩ .normal) := by unfold AF.edgeOk; kernel_rfl
theorem dplrg0 (a0 : Bool) (a1 a2 a3 a4 : Int) (a5 : Nat) (a6 a7 : Nat → Int) (a8 : Nat) (a9 a10 a11 a12 : Nat → Int) (p0 : Bool) (p1 p2 p3 p4 : Int) (p5 p6 : Nat) (p7 : Int) : AF.Rg (dplA a0 a1 a2 a3 a4 a5 a6 a7 a8 a9 a10 a11 a12) (dpls0A a0 a1 a2 a3 a4 a5 a6 a7 a8 a9 a10 a11 a12 p0 p1 p2 p3 p4 p5 p6 p7) Try.prog (ctxOf Try.prog (memoS 67 drcP drcF drcW drcH 2 (memoP 63 dshP dshF dshW dshH 2 memo0))) (ctxOf Try.prog (memoS 67 drcP drcF drcW drcH 2 (memoP 63 dshP dshF dshW dshH 2 memo0))) (.n0 p0 p1 p2 p3 p4 p5 p6 p7) (rgF (codeAt dplCode [1, 1, 1, 1, 1, 0, 1, 0])) (rgP (codeAt dplCode [1, 1, 1, 1, 1, 0, 1, 0])) (rgA (codeAt dplCode [1, 1, 1, 1, 1, 0, 1, 0])) (rgB (codeAt dplCode [1, 1, 1, 1, 1, 0, 1, 0])) 92 Try.f92 [] [.ptr (some (5, 0))] (fun v => match v with
   | .r0 => ⟨mkT [(6, .ptr (some (2, 0))), (8, .ptr (some (3, 0))), (9, .ptr (some (4, 0))), (22, .fn (.func 92) [] [.ptr (some (5, 0))])], 35, rgP (codeAt dplCode [1, 1, 1, 1, 1, 0, 1, 0]), rgA (codeAt dplCode [1, 1, 1, 1, 1, 0, 1, 0]), rgB (codeAt dplCode [1, 1, 1, 1, 1, 0, 1, 0]), .ready, .none⟩
   | .r1 q0 q1 q2 q3 => ⟨mkT [(6, .ptr (some (2, 0))), (8, .ptr (some (3, 0))), (9, .ptr (some (4, 0))), (22, .fn (.func 92) [] [.ptr (some (5, 0))])], 35, rgP (codeAt dplCode [1, 1, 1, 1, 1, 0, 1, 0]), rgA (codeAt dplCode [1, 1, 1, 1, 1, 0, 1, 0]), rgB (codeAt dplCode [1, 1, 1, 1, 1, 0, 1, 0]), .ready, .none⟩) (fun v => match v with
   | .r0 => .normal
   | .r1 q0 q1 q2 q3 => .normal) (dplRg0 a0 a1 a2 a3 a4 a5 a6 a7 a8 a9 a10 a11 a12 p0 p1 p2 p3 p4 p5 p6 p7) where
  code := by kernel_rfl
  fn := by kernel_rfl
  args := rfl
  base := rfl
  h0 := rfl
  W := rfl
  gfn := Try.func92
  body := rfl
  nt := rfl
  len := Nat.le_of_ble_eq_true rfl
  res := rfl
  ok := dpls0ok a0 a1 a2 a3 a4 a5 a6 a7 a8 a9 a10 a11 a12 p0 p1 p2 p3 p4 p5 p6 p7
  le := fun v => match v with
   | .r0 => Nat.le_of_ble_eq_true rfl
   | .r1 q0 q1 q2 q3 => Nat.le_of_ble_eq_true rfl
  lt := fun v => match v with
   | .r0 => rfl
   | .r1 q0 q1 q2 q3 => rfl
  rcd := fun v => match v with
   | .r0 => rfl
   | .r1 q0 q1 q2 q3 => rfl
  st := fun v => match v with
   | .r0 => (fun h => LoopState.noConfusion h)
   | .r1 q0 q1 q2 q3 => (fun h => LoopState.noConfusion h)
  exd := fun v => match v with
   | .r0 => rfl
   | .r1 q0 q1 q2 q3 => rfl
  D := fun v => match v with
   | .r0 => dplrg0_0 a0 a1 a2 a3 a4 a5 a6 a7 a8 a9 a10 a11 a12 p0 p1 p2 p3 p4 p5 p6 p7
   | .r1 q0 q1 q2 q3 => dplrg0_1 a0 a1 a2 a3 a4 a5 a6 a7 a8 a9 a10 a11 a12 p0 p1 p2 p3 p4 p5 p6 p7 q0 q1 q2 q3
theorem dplhR {ρ : Env} (a0 : Bool) (a1 a2 a3 a4 : Int) (a5 : Nat) (a6 a7 : Nat → Int) (a8 : Nat) (a9 a10 a11 a12 : Nat → Int) (hM : MemoOk Try.prog (ctxOf Try.prog (memoS 67 drcP drcF drcW drcH 2 (memoP 63 dshP dshF dshW dshH 2 memo0))) ρ) : ∀ X a q n D, FxOk ρ X → X.base = (dplA a0 a1 a2 a3 a4 a5 a6 a7 a8 a9 a10 a11 a12).base → X.nt = (dplA a0 a1 a2 a3 a4 a5 a6 a7 a8 a9 a10 a11 a12).nt → X.W = (dplA a0 a1 a2 a3 a4 a5 a6 a7 a8 a9 a10 a11 a12).W → (dplA a0 a1 a2 a3 a4 a5 a6 a7 a8 a9 a10 a11 a12).rgo a = some q → q n = some D → (dplA a0 a1 a2 a3 a4 a5 a6 a7 a8 a9 a10 a11 a12).RangeOk Try.prog ρ X a D := by
  intro X a q n D h1 h2 h3 h4 hq hD
  cases a with
  | n0 p0 p1 p2 p3 p4 p5 p6 p7 =>
    have e := Option.some.inj hq
    subst e
    exact AF.range_ok (n := n) try_ok hM hM (dplok a0 a1 a2 a3 a4 a5 a6 a7 a8 a9 a10 a11 a12) (dplrg0 a0 a1 a2 a3 a4 a5 a6 a7 a8 a9 a10 a11 a12 p0 p1 p2 p3 p4 p5 p6 p7) (dpls0hR a0 a1 a2 a3 a4 a5 a6 a7 a8 a9 a10 a11 a12 p0 p1 p2 p3 p4 p5 p6 p7 hM) h1 h2 h3 h4 hD
theorem dplctr {ρ : Env} (a0 : Bool) (a1 a2 a3 a4 : Int) (a5 : Nat) (a6 a7 : Nat → Int) (a8 : Nat) (a9 a10 a11 a12 : Nat → Int) {n : Nat} {v : dplR} (hM : MemoOk Try.prog (ctxOf Try.prog (memoS 67 drcP drcF drcW drcH 2 (memoP 63 dshP dshF dshW dshH 2 memo0))) ρ) (hv : (dplA a0 a1 a2 a3 a4 a5 a6 a7 a8 a9 a10 a11 a12).run n = some v) :
    Ctr Try.prog ρ 26 (dplA a0 a1 a2 a3 a4 a5 a6 a7 a8 a9 a10 a11 a12).args (dplA a0 a1 a2 a3 a4 a5 a6 a7 a8 a9 a10 a11 a12).H0 (dplA a0 a1 a2 a3 a4 a5 a6 a7 a8 a9 a10 a11 a12).base (dplA a0 a1 a2 a3 a4 a5 a6 a7 a8 a9 a10 a11 a12).W ((dplA a0 a1 a2 a3 a4 a5 a6 a7 a8 a9 a10 a11 a12).rc v) (putH (dplA a0 a1 a2 a3 a4 a5 a6 a7 a8 a9 a10 a11 a12).H0 ((dplA a0 a1 a2 a3 a4 a5 a6 a7 a8 a9 a10 a11 a12).rh v ++ (dplA a0 a1 a2 a3 a4 a5 a6 a7 a8 a9 a10 a11 a12).rx v)) ((dplA a0 a1 a2 a3 a4 a5 a6 a7 a8 a9 a10 a11 a12).rn v) :=
  AF.ctr try_ok hM (dplok a0 a1 a2 a3 a4 a5 a6 a7 a8 a9 a10 a11 a12) (fn := Try.f26) Try.func26 rfl rfl (Nat.le_of_ble_eq_true rfl) rfl (dplhR a0 a1 a2 a3 a4 a5 a6 a7 a8 a9 a10 a11 a12 hM) hv
theorem dplmem {ρ : Env} : MemoOk Try.prog (ctxOf Try.prog (memoS 67 drcP drcF drcW drcH 2 (memoP 63 dshP dshF dshW dshH 2 memo0))) ρ := (memoS_ok (drcknown drcmem) (memoP_ok (dshknown dshmem) memo0_ok))
abbrev dplP : List AQ := [.agg [.bool, .int .i64, .int .i64, .int .i64, .int .i64, .rows [some .i64, some .i64]], .rows [some .i64, some .i64, some .i64, some .i64]]
noncomputable def dplF (v : AW) : AF dplN dplR := dplA (v.b.getD 0 false) (v.i.getD 0 0) (v.i.getD 1 0) (v.i.getD 2 0) (v.i.getD 3 0) (v.t.getD 0 .none).n ((v.t.getD 0 .none).c 0) ((v.t.getD 0 .none).c 1) (v.t.getD 1 .none).n ((v.t.getD 1 .none).c 0) ((v.t.getD 1 .none).c 1) ((v.t.getD 1 .none).c 2) ((v.t.getD 1 .none).c 3)
def dplw0 : dplR → Nat
  | .r0 p0 => 0
  | .r1 p0 p1 p2 => p0
def dplw1 : dplR → Int
  | .r0 p0 => p0
  | .r1 p0 p1 p2 => 0
def dplw2 : dplR → (Nat → Int)
  | .r0 p0 => fun _ => 0
  | .r1 p0 p1 p2 => p1
def dplw3 : dplR → (Nat → Int)
  | .r0 p0 => fun _ => 0
  | .r1 p0 p1 p2 => p2
noncomputable def dplW : dplR → CV := fun v => .tup [.sla 2 2 0 ((dplw0 v)), .int .i64 (.x ((dplw1 v)))]
noncomputable def dplH : dplR → List (Nat × Blk) := fun v => [(2, ⟨.rows ((dplw0 v)) 2 (fun i => [.int .i64 (.x ((dplw2 v) i)), .int .i64 (.x ((dplw3 v) i))]) (fun _ => ⟨rfl, rfl⟩), 2, true, none⟩)]
instance : Inhabited dplR := ⟨.r0 0⟩
theorem dplknown {ρ : Env} (hM : MemoOk Try.prog (ctxOf Try.prog (memoS 67 drcP drcF drcW drcH 2 (memoP 63 dshP dshF dshW dshH 2 memo0))) ρ) : KnownS Try.prog ρ 26 dplP dplF dplW dplH 3 where
  fn := ⟨Try.f26, Try.func26, rfl⟩
  le := Nat.le_of_ble_eq_true rfl
  full := fun r => rfl
  rg := fun r => rfl
  hg := fun r => (fa_cons ⟨fun _ => rfl, rfl⟩ fa_nil)
  ctr := fun v n r h => match r, h with
    | .r0 p0, h => Ctr.weaken (dplctr (v.b.getD 0 false) (v.i.getD 0 0) (v.i.getD 1 0) (v.i.getD 2 0) (v.i.getD 3 0) (v.t.getD 0 .none).n ((v.t.getD 0 .none).c 0) ((v.t.getD 0 .none).c 1) (v.t.getD 1 .none).n ((v.t.getD 1 .none).c 0) ((v.t.getD 1 .none).c 1) ((v.t.getD 1 .none).c 2) ((v.t.getD 1 .none).c 3) hM h) (Nat.le_of_ble_eq_true rfl) (Nat.le_of_ble_eq_true rfl) (fun σ => (fun _ h => VR.tup_imp (VRl.cons_imp (fun _ h => h.nil_sla) (VRl.cons_imp (fun _ h => h) VRl.nil_imp)) h)) (fun b h1 h2 => absurd (Nat.lt_of_le_of_lt h1 h2) (Nat.lt_irrefl _))
    | .r1 p0 p1 p2, h => Ctr.weaken (dplctr (v.b.getD 0 false) (v.i.getD 0 0) (v.i.getD 1 0) (v.i.getD 2 0) (v.i.getD 3 0) (v.t.getD 0 .none).n ((v.t.getD 0 .none).c 0) ((v.t.getD 0 .none).c 1) (v.t.getD 1 .none).n ((v.t.getD 1 .none).c 0) ((v.t.getD 1 .none).c 1) ((v.t.getD 1 .none).c 2) ((v.t.getD 1 .none).c 3) hM h) (Nat.le_of_ble_eq_true rfl) (Nat.le_of_ble_eq_true rfl) (fun σ => (fun _ h => VR.tup_imp (VRl.cons_imp (fun _ h => h.as_sla) (VRl.cons_imp (fun _ h => h) VRl.nil_imp)) h)) (fun b h1 h2 => rfl)
end Go.Proofs.Ythagjhadjpangaa.Cx

/- acme/acmeref07.Plan as an automaton. Made by tools/cxauto.py. -/
namespace Go.Proofs.Ythagjhadjpangaa.Cx
set_option linter.unusedVariables false
set_option linter.unusedSimpArgs false
set_option maxRecDepth 100000
open Go Go.Proofs Go.RowKit
inductive rdpR where
  | r0
  | r1
  | r2 (p0 : Nat) (p1 p2 : Nat → Int)
instance : Inhabited rdpR := ⟨.r0⟩
end Go.Proofs.Ythagjhadjpangaa.Cx

/- Package die: Reach and Plan, the program's and the reference's. -/
namespace Go.Proofs.Ythagjhadjpangaa.Cx
set_option linter.unusedVariables false
set_option linter.unusedSimpArgs false
set_option maxRecDepth 100000
set_option maxHeartbeats 4000000
open Go Go.RowKit
def loJ (a0 : Bool) (a1 a3 : Int) (a6 a7 : Nat → Int) (a8 : Nat) (a9 a10 a11 : Nat → Int) (f : Int) (n : Nat) : Int := LoM (-1152921504606846976) (tlP a0 a1 a3 a6 a7 a10 a9 a11 a8 f) n
def hiJ (a0 : Bool) (a2 a4 : Int) (a6 a7 : Nat → Int) (a8 : Nat) (a9 a10 a12 : Nat → Int) (f : Int) (n : Nat) : Int := HiM 1152921504606846976 (thP a0 a2 a4 a6 a7 a10 a9 a12 a8 f) n
section
variable {a0 : Bool} {a1 a2 a3 a4 : Int} {a5 : Nat} {a6 a7 : Nat → Int} {a8 : Nat} {a9 a10 a11 a12 : Nat → Int} {a13 a14 : Int}
theorem narr : Narr (loJ a0 a1 a3 a6 a7 a8 a9 a10 a11) (hiJ a0 a2 a4 a6 a7 a8 a9 a10 a12) := ⟨fun f i j h => LoM_mono j h, fun f i j h => HiM_mono j h⟩
theorem rj_of (h : JobOk a1 a2 a3 a4 a5 a6 a7 a8 a9 a10 a11 a12) (h0 : 0 ≤ a13) (h1 : a13 < PS a9 a8) {w x y z : Int} (hR : RchG a0 a1 a2 a3 a4 a5 a6 a7 a8 a9 a10 a11 a12 w (-10000000000) 20000000000 a13 (PS a9 a8) x y z) : ∃ J : Nat, RJ (PS a9 a8) (loJ a0 a1 a3 a6 a7 a8 a9 a10 a11) (hiJ a0 a2 a4 a6 a7 a8 a9 a10 a12) a13 J ∧ z = a13 + J ∧ (0 < J → x = (loJ a0 a1 a3 a6 a7 a8 a9 a10 a11) a13 J ∧ y = (hiJ a0 a2 a4 a6 a7 a8 a9 a10 a12) a13 J) := by
  obtain ⟨J, j1, j2, j3, rfl, rfl, rfl⟩ := hR
  have el := h.lo (a0 := a0) (a13 := a13) h0 h1
  have eh := h.hi (a0 := a0) (a13 := a13) h0 h1
  have e1 : 0 < J → LoM (-10000000000) (tlP a0 a1 a3 a6 a7 a10 a9 a11 a8 a13) J = (loJ a0 a1 a3 a6 a7 a8 a9 a10 a11) a13 J ∧ HiM 20000000000 (thP a0 a2 a4 a6 a7 a10 a9 a12 a8 a13) J = (hiJ a0 a2 a4 a6 a7 a8 a9 a10 a12) a13 J := fun hj => by
    obtain ⟨K, rfl⟩ : ∃ K, J = K + 1 := ⟨J - 1, by omega⟩
    exact ⟨el K, eh K⟩
  refine ⟨J, ⟨j1, fun hj => ?_, fun hj => ?_⟩, rfl, e1⟩
  · have := j2 hj
    rw [el, eh] at this
    exact this
  · have := j3 hj
    rw [(e1 hj).1, (e1 hj).2] at this
    exact this
theorem rdr_val (h : JobOk a1 a2 a3 a4 a5 a6 a7 a8 a9 a10 a11 a12) (h0 : 0 ≤ a13) (h1 : a13 < PS a9 a8) : AF.fin (rdrA a0 a1 a2 a3 a4 a5 a6 a7 a8 a9 a10 a11 a12 a13) = true ∧ ∃ J : Nat, RJ (PS a9 a8) (loJ a0 a1 a3 a6 a7 a8 a9 a10 a11) (hiJ a0 a2 a4 a6 a7 a8 a9 a10 a12) a13 J ∧ AF.val (rdrA a0 a1 a2 a3 a4 a5 a6 a7 a8 a9 a10 a11 a12 a13) = ((a13 + (J : Int) : Int)) := by
  obtain ⟨af, av⟩ := rda_val (a0 := a8) (a1 := a9) (a2 := a10) (a3 := a11) (a4 := a12) h.few h.pc
  have avE : AF.val (rdaA a8 (fun i => a9 i) (fun i => a10 i) (fun i => a11 i) (fun i => a12 i)) = _ := av
  have few := h.few
  have tot := (h.wsum (f := a13) (j := 0) h0 (by omega)).2.2
  refine AF.val_sat (E := fun v => ∃ J : Nat, RJ (PS a9 a8) (loJ a0 a1 a3 a6 a7 a8 a9 a10 a11) (hiJ a0 a2 a4 a6 a7 a8 a9 a10 a12) a13 J ∧ v = ((a13 + (J : Int) : Int))) (Inv := fun b => match b with | .n0 p => a13 ≤ p ∧ p ≤ PS a9 a8 ∧ (a13 < p → (loJ a0 a1 a3 a6 a7 a8 a9 a10 a11) a13 (p - a13).toNat ≤ (hiJ a0 a2 a4 a6 a7 a8 a9 a10 a12) a13 (p - a13).toNat)) (fun b => match b with | .n0 p => (PS a9 a8 - p).toNat) (fun _ => rfl) (fun a hI => ?_) ?_
  · cases a with
    | n0 p =>
      obtain ⟨g0, g1, g2⟩ := hI
      show DD.sat _ _ (rdrD a0 a1 a2 a3 a4 a5 a6 a7 a8 a9 a10 a11 a12 a13 (.n0 p))
      unfold rdrD
      have ea : p < PS a9 a8 → Ar.run .add .i64 p 1 = p + 1 := fun h => arAdd (by omega)
      simp only [DD.sat, Nat.zero_add, cmLss, cmLssF, cmLeq, cmLeqF, cmGtr, cmGtrF, cmGeq, cmGeqF, cmEql, cmEqlF, cmNeq, cmNeqF, decide_eq_true_eq, Bool.not_eq_true', Bool.not_eq_false', avE]
      refine ⟨Nat.le_refl _, shape_ok fun i _ => rfl, af, fun hp => ?_, fun hp => ⟨(p - a13).toNat, ⟨by omega, fun hx => by omega, fun hx => g2 (by omega)⟩, by omega⟩⟩
      obtain ⟨tf, tv⟩ := rdt_val (a0 := a0) (a13 := a13) (a14 := p + 1) h h0 (by omega) (by omega)
      have tvE : AF.val (rdtA a0 a1 a2 a3 a4 a5 (fun i => a6 i) (fun i => a7 i) a8 (fun i => a9 i) (fun i => a10 i) (fun i => a11 i) (fun i => a12 i) a13 (p + 1)) = _ := tv
      have en : (p + 1 - a13).toNat = (p - a13).toNat + 1 := by omega
      simp only [ea hp, tvE]
      refine ⟨Nat.le_refl _, shape_ok fun i _ => rfl, Nat.le_refl _, shape_ok fun i _ => rfl, tf, fun hx => ⟨⟨by omega, by omega, fun _ => hx⟩, by omega⟩, fun hx => ⟨(p - a13).toNat, ⟨by omega, fun _ => ?_, fun hx => g2 (by omega)⟩, by omega⟩⟩
      rw [en] at hx
      exact hx
  · exact ⟨Int.le_refl _, Int.le_of_lt h1, fun hx => by omega⟩
/-- What Reach yields. -/
def ReaE (a0 : Bool) (a1 a2 a3 a4 : Int) (a5 : Nat) (a6 a7 : Nat → Int) (a8 : Nat) (a9 a10 a11 a12 : Nat → Int) (a13 : Int) (v : Int × Int) : Prop :=
  ∃ e, CkS a5 a8 (ToolOk a5 a6 a7 a1 a2 a3 a4) a9 a10 a11 a12 e ∧ (e ≠ 0 ∧ v = (0, e) ∨ e = 0 ∧ (¬ (0 ≤ a13 ∧ a13 < PS a9 a8) ∧ v = (0, 3) ∨
    (0 ≤ a13 ∧ a13 < PS a9 a8) ∧ ∃ J : Nat, RJ (PS a9 a8) (loJ a0 a1 a3 a6 a7 a8 a9 a10 a11) (hiJ a0 a2 a4 a6 a7 a8 a9 a10 a12) a13 J ∧ v = (a13 + J, 0)))
theorem dra_val (hn : a5 ≤ 10000) (hm : a8 ≤ 10000) : AF.fin (draA a0 a1 a2 a3 a4 a5 a6 a7 a8 a9 a10 a11 a12 a13) = true ∧ ReaE a0 a1 a2 a3 a4 a5 a6 a7 a8 a9 a10 a11 a12 a13 (AF.val (draA a0 a1 a2 a3 a4 a5 a6 a7 a8 a9 a10 a11 a12 a13)) := by
  obtain ⟨hf, e, hC, hv⟩ := dsh_val (a0 := a0) (a1 := a1) (a2 := a2) (a3 := a3) (a4 := a4) (a5 := a5) (a6 := a6) (a7 := a7) (a8 := a8) (a9 := a9) (a10 := a10) (a11 := a11) (a12 := a12) hn hm
  refine flat_val (E := ReaE a0 a1 a2 a3 a4 a5 a6 a7 a8 a9 a10 a11 a12 a13) (fun _ => rfl) ?_
  show DD.sat _ _ (draD0 a0 a1 a2 a3 a4 a5 a6 a7 a8 a9 a10 a11 a12 a13)
  unfold draD0
  rcases hv with ⟨he, hv⟩ | ⟨rfl, hv⟩
  · have hv' : AF.val (dshA a0 a1 a2 a3 a4 a5 (fun i => a6 i) (fun i => a7 i) a8 (fun i => a9 i) (fun i => a10 i) (fun i => a11 i) (fun i => a12 i)) = .r0 e := hv
    simp only [DD.sat, Nat.zero_add, cmLss, cmLssF, cmLeq, cmLeqF, cmGtr, cmGtrF, cmGeq, cmGeqF, cmEql, cmEqlF, cmNeq, cmNeqF, decide_eq_true_eq, Bool.not_eq_true', Bool.not_eq_false', hv', dshw8]
    refine ⟨Nat.le_refl _, shape_ok fun i _ => rfl, Nat.le_refl _, shape_ok fun i _ => rfl, hf, fun _ => ⟨e, hC, .inl ⟨he, rfl⟩⟩, fun hx => absurd hx he⟩
  · have hv' : AF.val (dshA a0 a1 a2 a3 a4 a5 (fun i => a6 i) (fun i => a7 i) a8 (fun i => a9 i) (fun i => a10 i) (fun i => a11 i) (fun i => a12 i)) = .r1 a0 a1 a2 a3 a4 a5 a8 (PS a9 a8) := hv
    have bad : ¬ (0 ≤ a13 ∧ a13 < PS a9 a8) → ReaE a0 a1 a2 a3 a4 a5 a6 a7 a8 a9 a10 a11 a12 a13 (0, 3) := fun hb => ⟨0, hC, .inr ⟨rfl, .inl ⟨hb, rfl⟩⟩⟩
    have job := hC.job
    have r0 := PS_rng job.pc a8 (Nat.le_refl _)
    have few := job.few
    have es : Ar.run .sub .i64 (PS a9 a8) 1 = PS a9 a8 - 1 := arSub (by omega)
    simp only [DD.sat, Nat.zero_add, cmLss, cmLssF, cmLeq, cmLeqF, cmGtr, cmGtrF, cmGeq, cmGeqF, cmEql, cmEqlF, cmNeq, cmNeqF, decide_eq_true_eq, Bool.not_eq_true', Bool.not_eq_false', hv', dshw0, dshw1, dshw2, dshw3, dshw4, dshw5, dshw6, dshw7, dshw8, es]
    refine ⟨Nat.le_refl _, shape_ok fun i _ => rfl, Nat.le_refl _, shape_ok fun i _ => rfl, hf, fun hx => absurd rfl hx, fun _ => ⟨fun h => bad (by omega), fun h1 => ⟨fun h => bad (by omega), fun h2 => ?_⟩⟩⟩
    obtain ⟨rf, x, y, z, rv, hR⟩ := drc_gen (a0 := a0) (a13 := PS a9 a8) (a14 := -10000000000) (a15 := 20000000000) (a16 := a13) (a17 := PS a9 a8) job (by omega) (by omega) (by omega)
    have rv' : AF.val (drcA a0 a1 a2 a3 a4 a5 (fun i => a6 i) (fun i => a7 i) a8 (fun i => a9 i) (fun i => a10 i) (fun i => a11 i) (fun i => a12 i) (PS a9 a8) (-10000000000) 20000000000 a13 (PS a9 a8)) = _ := rv
    obtain ⟨J, hJ, rfl, _⟩ := rj_of job h1 (by omega) hR
    simp only [rv']
    exact ⟨Nat.le_refl _, shape_ok fun i _ => rfl, Nat.le_refl _, shape_ok fun i _ => rfl, rf, 0, hC, .inr ⟨rfl, .inr ⟨by omega, J, hJ, rfl⟩⟩⟩
/-- No plan: it gets stuck. -/
def Stk (T : Int) (lo hi : Int → Nat → Int) : Prop := ∃ k f F G, Chn T lo hi k f F G ∧ f < T ∧ RJ T lo hi f 0
def DpsS (T : Int) (lo hi : Int → Nat → Int) : dpls0R → Prop
  | .r0 => RJ T lo hi 0 0
  | .r1 q0 q1 q2 q3 => Chn T lo hi q0 q1 q2 q3 ∧ (q1 = T ∨ q1 < T ∧ RJ T lo hi q1 0)
theorem bif_lt {i k : Nat} {x y : Int} (h : i < k) : (bif Nat.blt i k then x else y) = x := by
  have : Nat.blt i k = true := by rw [Nat.blt_eq]; exact h
  rw [this]; rfl
theorem bif_ge {k : Nat} {x y : Int} : (bif Nat.blt k k then x else y) = y := by
  have : Nat.blt k k = false := by
    cases h : Nat.blt k k with
    | false => rfl
    | true =>
      rw [Nat.blt_eq] at h
      exact absurd h (Nat.lt_irrefl _)
  rw [this]; rfl
theorem dps_gen (h : JobOk a1 a2 a3 a4 a5 a6 a7 a8 a9 a10 a11 a12) (hT : 0 < PS a9 a8) (h3 : PS a9 a8 ≤ 10000) : ∃ n v, AF.run (dpls0A a0 a1 a2 a3 a4 a5 a6 a7 a8 a9 a10 a11 a12 a0 a1 a2 a3 a4 a5 a8 (PS a9 a8)) n = some v ∧ DpsS (PS a9 a8) (loJ a0 a1 a3 a6 a7 a8 a9 a10 a11) (hiJ a0 a2 a4 a6 a7 a8 a9 a10 a12) v := by
  have step : ∀ q, 0 ≤ q → q < PS a9 a8 → AF.fin (drcA a0 a1 a2 a3 a4 a5 a6 a7 a8 a9 a10 a11 a12 (PS a9 a8) (-10000000000) 20000000000 q (PS a9 a8)) = true ∧ ∃ x y z, AF.val (drcA a0 a1 a2 a3 a4 a5 (fun i => a6 i) (fun i => a7 i) a8 (fun i => a9 i) (fun i => a10 i) (fun i => a11 i) (fun i => a12 i) (PS a9 a8) (-10000000000) 20000000000 q (PS a9 a8)) = (x, y, z) ∧ ∃ J : Nat, RJ (PS a9 a8) (loJ a0 a1 a3 a6 a7 a8 a9 a10 a11) (hiJ a0 a2 a4 a6 a7 a8 a9 a10 a12) q J ∧ z = q + J ∧ (0 < J → x = (loJ a0 a1 a3 a6 a7 a8 a9 a10 a11) q J ∧ y = (hiJ a0 a2 a4 a6 a7 a8 a9 a10 a12) q J) := fun q q0 q1 => by
    obtain ⟨rf, x, y, z, rv, hR⟩ := drc_gen (a0 := a0) (a13 := PS a9 a8) (a14 := -10000000000) (a15 := 20000000000) (a16 := q) (a17 := PS a9 a8) h q0 (by omega) (Int.le_refl _)
    exact ⟨rf, x, y, z, rv, rj_of h q0 q1 hR⟩
  refine AF.run_sat (E := DpsS (PS a9 a8) (loJ a0 a1 a3 a6 a7 a8 a9 a10 a11) (hiJ a0 a2 a4 a6 a7 a8 a9 a10 a12)) (Inv := fun b => match b with | .n0 => True | .n1 q0 q1 q2 q3 => Chn (PS a9 a8) (loJ a0 a1 a3 a6 a7 a8 a9 a10 a11) (hiJ a0 a2 a4 a6 a7 a8 a9 a10 a12) q1 q0 q2 q3 ∧ 0 ≤ q0 ∧ q0 ≤ PS a9 a8)
    (fun b => match b with | .n0 => (PS a9 a8).toNat + 1 | .n1 q0 q1 q2 q3 => (PS a9 a8 - q0).toNat) (fun b => rfl) (fun a hI => ?_) ?_
  · cases a with
    | n0 =>
      show DD.sat _ _ (dpls0D a0 a1 a2 a3 a4 a5 a6 a7 a8 a9 a10 a11 a12 a0 a1 a2 a3 a4 a5 a8 (PS a9 a8) .n0)
      unfold dpls0D
      obtain ⟨rf, x, y, z, rv, J, hJ, hz, hxy⟩ := step 0 (Int.le_refl _) hT
      obtain rfl : z = J := by omega
      simp only [DD.sat, Nat.zero_add, cmLss, cmLssF, cmLeq, cmLeqF, cmGtr, cmGtrF, cmGeq, cmGeqF, cmEql, cmEqlF, cmNeq, cmNeqF, decide_eq_true_eq, Bool.not_eq_true', Bool.not_eq_false', rv]
      refine ⟨fun _ => ⟨Nat.le_refl _, shape_ok fun i _ => rfl, Nat.le_refl _, shape_ok fun i _ => rfl, rf, fun hj => ?_, fun hj => ⟨⟨?_, by omega, ?_⟩, ?_⟩⟩, fun hx => by omega⟩
      · obtain rfl : J = 0 := by omega
        exact hJ
      · have e := (hxy (by omega)).1
        subst e
        have c := (Chn.nil (F := fun _ => 0) (G := fun _ => 0)).next (F' := fun _ => 0) (G' := fun _ => (loJ a0 a1 a3 a6 a7 a8 a9 a10 a11) 0 J) hJ (by omega) (fun _ _ => rfl) (fun i hi => by omega) rfl rfl
        rw [Int.zero_add] at c
        exact c
      · have := hJ.1; omega
      · omega
    | n1 q0 q1 q2 q3 =>
      obtain ⟨c, g0, g1⟩ := hI
      have cl := c.len
      show DD.sat _ _ (dpls0D a0 a1 a2 a3 a4 a5 a6 a7 a8 a9 a10 a11 a12 a0 a1 a2 a3 a4 a5 a8 (PS a9 a8) (.n1 q0 q1 q2 q3))
      unfold dpls0D
      by_cases hq : q0 < PS a9 a8
      · obtain ⟨rf, x, y, z, rv, J, hJ, rfl, hxy⟩ := step q0 g0 hq
        simp only [DD.sat, Nat.zero_add, cmLss, cmLssF, cmLeq, cmLeqF, cmGtr, cmGtrF, cmGeq, cmGeqF, cmEql, cmEqlF, cmNeq, cmNeqF, decide_eq_true_eq, Bool.not_eq_true', Bool.not_eq_false', rv]
        refine ⟨fun _ => ⟨Nat.le_refl _, shape_ok fun i _ => rfl, Nat.le_refl _, shape_ok fun i _ => rfl, rf, fun hj => ⟨c, .inr ⟨hq, ?_⟩⟩, fun hj => ⟨Nat.le_refl _, by omega, ⟨?_, by omega, ?_⟩, ?_⟩⟩, fun hx => by omega⟩
        · obtain rfl : J = 0 := by omega
          exact hJ
        · have e := (hxy (by omega)).1
          subst e
          exact c.next hJ (by omega) (fun i hi => bif_lt hi) (fun i hi => bif_lt hi) bif_ge bif_ge
        · have := hJ.1; omega
        · have := hJ.1; omega
      · simp only [DD.sat, Nat.zero_add, cmLss, cmLssF, cmLeq, cmLeqF, cmGtr, cmGtrF, cmGeq, cmGeqF, cmEql, cmEqlF, cmNeq, cmNeqF, decide_eq_true_eq, Bool.not_eq_true', Bool.not_eq_false']
        exact ⟨fun hx => by omega, fun _ => ⟨c, .inl (by omega)⟩⟩
  · show True
    trivial
/-- What Plan yields. -/
def PlnE (a0 : Bool) (a1 a2 a3 a4 : Int) (a5 : Nat) (a6 a7 : Nat → Int) (a8 : Nat) (a9 a10 a11 a12 : Nat → Int) (v : dplR) : Prop :=
  ∃ e, CkS a5 a8 (ToolOk a5 a6 a7 a1 a2 a3 a4) a9 a10 a11 a12 e ∧ (e ≠ 0 ∧ v = .r0 e ∨ e = 0 ∧ (Stk (PS a9 a8) (loJ a0 a1 a3 a6 a7 a8 a9 a10 a11) (hiJ a0 a2 a4 a6 a7 a8 a9 a10 a12) ∧ v = .r0 7 ∨ ∃ k F G, Chn (PS a9 a8) (loJ a0 a1 a3 a6 a7 a8 a9 a10 a11) (hiJ a0 a2 a4 a6 a7 a8 a9 a10 a12) k (PS a9 a8) F G ∧ v = .r1 k F G))
theorem dpl_mono : AF.Mono (dplA a0 a1 a2 a3 a4 a5 a6 a7 a8 a9 a10 a11 a12) := AF.mono_map fun a => by
  cases a with
  | n0 p0 p1 p2 p3 p4 p5 p6 p7 => exact .inr ⟨_, _, _, _, AF.mono_none (fun _ => rfl), rfl⟩
theorem JobOk.pos (h : CkS a5 a8 (ToolOk a5 a6 a7 a1 a2 a3 a4) a9 a10 a11 a12 0) : 0 < PS a9 a8 := by
  have := h.ok.2.2.1
  have := PS_rng h.job.pc a8 (Nat.le_refl _)
  omega
theorem dpl_val (hn : a5 ≤ 10000) (hm : a8 ≤ 10000) (hp : CkS a5 a8 (ToolOk a5 a6 a7 a1 a2 a3 a4) a9 a10 a11 a12 0 → PS a9 a8 ≤ 10000) : AF.fin (dplA a0 a1 a2 a3 a4 a5 a6 a7 a8 a9 a10 a11 a12) = true ∧ PlnE a0 a1 a2 a3 a4 a5 a6 a7 a8 a9 a10 a11 a12 (AF.val (dplA a0 a1 a2 a3 a4 a5 a6 a7 a8 a9 a10 a11 a12)) := by
  obtain ⟨hf, e, hC, hv⟩ := dsh_val (a0 := a0) (a1 := a1) (a2 := a2) (a3 := a3) (a4 := a4) (a5 := a5) (a6 := a6) (a7 := a7) (a8 := a8) (a9 := a9) (a10 := a10) (a11 := a11) (a12 := a12) hn hm
  refine AF.val_satR (A := dplA a0 a1 a2 a3 a4 a5 a6 a7 a8 a9 a10 a11 a12) (E := PlnE a0 a1 a2 a3 a4 a5 a6 a7 a8 a9 a10 a11 a12) (Inv := fun b => match b with | .n0 p0 p1 p2 p3 p4 p5 p6 p7 => (p0 = a0 ∧ p1 = a1 ∧ p2 = a2 ∧ p3 = a3 ∧ p4 = a4 ∧ p5 = a5 ∧ p6 = a8 ∧ p7 = PS a9 a8) ∧ e = 0) dpl_mono (fun _ => 0) (fun a hI => .inr ?_) ?_
  · cases a with
    | n0 p0 p1 p2 p3 p4 p5 p6 p7 =>
      obtain ⟨⟨rfl, rfl, rfl, rfl, rfl, rfl, rfl, rfl⟩, rfl⟩ := hI
      obtain ⟨n, v, hv, hE⟩ := dps_gen (a0 := p0) hC.job (JobOk.pos hC) (hp hC)
      refine ⟨_, n, dplRg0 p0 p1 p2 p3 p4 p5 a6 a7 p6 a9 a10 a11 a12 p0 p1 p2 p3 p4 p5 p6 (PS a9 p6) v, rfl, ?_, ?_⟩
      · show Option.map _ (AF.run _ n) = _
        rw [hv]; rfl
      · cases v with
        | r0 =>
          unfold dplRg0
          simp only [DD.sat, Nat.zero_add, cmLss, cmLssF, cmLeq, cmLeqF, cmGtr, cmGtrF, cmGeq, cmGeqF, cmEql, cmEqlF, cmNeq, cmNeqF, decide_eq_true_eq, Bool.not_eq_true', Bool.not_eq_false']
          exact ⟨fun hx => ⟨0, hC, .inr ⟨rfl, .inl ⟨⟨0, 0, fun _ => 0, fun _ => 0, Chn.nil, hx, hE⟩, rfl⟩⟩⟩, fun hx => by have := JobOk.pos hC; omega⟩
        | r1 q0 q1 q2 q3 =>
          obtain ⟨c, hq⟩ := hE
          unfold dplRg0
          simp only [DD.sat, Nat.zero_add, cmLss, cmLssF, cmLeq, cmLeqF, cmGtr, cmGtrF, cmGeq, cmGeqF, cmEql, cmEqlF, cmNeq, cmNeqF, decide_eq_true_eq, Bool.not_eq_true', Bool.not_eq_false']
          refine ⟨fun hx => ⟨0, hC, .inr ⟨rfl, .inl ⟨⟨q0, q1, q2, q3, c, hx, ?_⟩, rfl⟩⟩⟩, fun hx => ⟨0, hC, .inr ⟨rfl, .inr ⟨q0, q2, q3, ?_, rfl⟩⟩⟩⟩
          · rcases hq with hq | ⟨_, hq⟩
            · omega
            · exact hq
          · rcases hq with rfl | ⟨hq, _⟩
            · exact c
            · omega
  · show DD.sat _ _ (dplD0 a0 a1 a2 a3 a4 a5 a6 a7 a8 a9 a10 a11 a12)
    unfold dplD0
    rcases hv with ⟨he, hv⟩ | ⟨rfl, hv⟩
    · have hv' : AF.val (dshA a0 a1 a2 a3 a4 a5 (fun i => a6 i) (fun i => a7 i) a8 (fun i => a9 i) (fun i => a10 i) (fun i => a11 i) (fun i => a12 i)) = .r0 e := hv
      simp only [DD.sat, Nat.zero_add, cmLss, cmLssF, cmLeq, cmLeqF, cmGtr, cmGtrF, cmGeq, cmGeqF, cmEql, cmEqlF, cmNeq, cmNeqF, decide_eq_true_eq, Bool.not_eq_true', Bool.not_eq_false', hv', dshw8]
      refine ⟨Nat.le_refl _, shape_ok fun i _ => rfl, Nat.le_refl _, shape_ok fun i _ => rfl, hf, fun _ => ⟨e, hC, .inl ⟨he, rfl⟩⟩, fun hx => absurd hx he⟩
    · have hv' : AF.val (dshA a0 a1 a2 a3 a4 a5 (fun i => a6 i) (fun i => a7 i) a8 (fun i => a9 i) (fun i => a10 i) (fun i => a11 i) (fun i => a12 i)) = .r1 a0 a1 a2 a3 a4 a5 a8 (PS a9 a8) := hv
      simp only [DD.sat, Nat.zero_add, cmLss, cmLssF, cmLeq, cmLeqF, cmGtr, cmGtrF, cmGeq, cmGeqF, cmEql, cmEqlF, cmNeq, cmNeqF, decide_eq_true_eq, Bool.not_eq_true', Bool.not_eq_false', hv', dshw0, dshw1, dshw2, dshw3, dshw4, dshw5, dshw6, dshw7, dshw8]
      refine ⟨Nat.le_refl _, shape_ok fun i _ => rfl, Nat.le_refl _, shape_ok fun i _ => rfl, hf, fun hx => absurd rfl hx, fun _ => (by repeat' (first | trivial | omega | apply And.intro))⟩
end
end Go.Proofs.Ythagjhadjpangaa.Cx

/- Package die: settings that go as far as they can make the most pieces sure, in plain Lean. -/
namespace Go.Proofs.Ythagjhadjpangaa.Cx
set_option linter.unusedVariables false
set_option linter.unusedSimpArgs false
set_option maxRecDepth 100000
set_option maxHeartbeats 4000000
open Go Go.RowKit
/-- There is a target for the pieces from f to n - 1. -/
def CanP (lo hi : Int → Nat → Int) (f n : Int) : Prop := lo f (n - f).toNat ≤ hi f (n - f).toNat
/-- What one setting makes sure it does also if it begins later; it goes somewhere from each piece. -/
structure Late (T : Int) (lo hi : Int → Nat → Int) : Prop where
  narr : Narr lo hi
  late : ∀ f f' n, 0 ≤ f → f ≤ f' → f' < n → n ≤ T → CanP lo hi f n → CanP lo hi f' n
  ex : ∀ f, 0 ≤ f → f < T → ∃ J, RJ T lo hi f J
open Classical in
noncomputable def JO (T : Int) (lo hi : Int → Nat → Int) (f : Int) : Nat := if h : ∃ J, RJ T lo hi f J then h.choose else 0
noncomputable def GE (T : Int) (lo hi : Int → Nat → Int) : Nat → Int
  | 0 => 0
  | k + 1 => GE T lo hi k + JO T lo hi (GE T lo hi k)
section
variable {T : Int} {lo hi : Int → Nat → Int}
theorem JO_spec (m : Late T lo hi) {f : Int} (h0 : 0 ≤ f) (h1 : f ≤ T) : RJ T lo hi f (JO T lo hi f) := by
  have e : ∃ J, RJ T lo hi f J := by
    by_cases h : f < T
    · exact m.ex f h0 h
    · exact ⟨0, by omega, fun hx => by omega, fun hx => by omega⟩
  unfold JO
  rw [dif_pos e]
  exact e.choose_spec
theorem JO_of (m : Late T lo hi) {f : Int} (h0 : 0 ≤ f) (h1 : f ≤ T) {J : Nat} (h : RJ T lo hi f J) : JO T lo hi f = J := (JO_spec m h0 h1).uniq m.narr h
theorem GE_rng (m : Late T lo hi) (hT : 0 ≤ T) : ∀ k, 0 ≤ GE T lo hi k ∧ GE T lo hi k ≤ T
  | 0 => by rw [GE]; omega
  | k + 1 => by
    have a := GE_rng m hT k
    have b := (JO_spec m a.1 a.2).1
    rw [GE]
    omega
theorem GE_mono (m : Late T lo hi) {i : Nat} : ∀ j, i ≤ j → GE T lo hi i ≤ GE T lo hi j
  | 0, h => by
    obtain rfl : i = 0 := by omega
    exact Int.le_refl _
  | j + 1, h => by
    by_cases he : i = j + 1
    · rw [he]; exact Int.le_refl _
    · have := GE_mono m (i := i) j (by omega)
      rw [GE]
      omega
theorem can_iff (m : Late T lo hi) {f n : Int} (h0 : 0 ≤ f) (h1 : f < n) (h2 : n ≤ T) : CanP lo hi f n ↔ n ≤ f + JO T lo hi f := by
  have s := JO_spec m h0 (Int.le_of_lt (Int.lt_of_lt_of_le h1 h2))
  unfold CanP
  constructor
  · intro hc
    refine Int.not_lt.1 fun hx => ?_
    have a := s.2.1 (by omega)
    have b := m.narr.lo f (JO T lo hi f + 1) (n - f).toNat (by omega)
    have c := m.narr.hi f (JO T lo hi f + 1) (n - f).toNat (by omega)
    omega
  · intro hx
    have a := s.2.2 (by omega)
    have b := m.narr.lo f (n - f).toNat (JO T lo hi f) (by omega)
    have c := m.narr.hi f (n - f).toNat (JO T lo hi f) (by omega)
    omega
theorem GE_stuck (m : Late T lo hi) {k : Nat} (h : JO T lo hi (GE T lo hi k) = 0) : ∀ d, GE T lo hi (k + d) = GE T lo hi k
  | 0 => rfl
  | d + 1 => by
    rw [show k + (d + 1) = (k + d) + 1 by omega, GE, GE_stuck m h d, h]
    omega
/-- With how few settings the first pieces can be sure, for all numbers of pieces below n. -/
def FewS (T : Int) (lo hi : Int → Nat → Int) (n : Nat) (out : Nat → Int) : Prop :=
  ∀ j, j < n → (0 ≤ out j ∧ out j ≤ 1000000) ∧ ∀ k : Nat, k < 1000000 → (out j ≤ k ↔ (j : Int) ≤ GE T lo hi k)
/-- The best of the last settings from p on. -/
def BestS (lo hi : Int → Nat → Int) (n : Nat) (out : Nat → Int) (p : Int) (best : Int) : Prop :=
  (0 ≤ best ∧ best ≤ 1000000) ∧ (∀ f : Nat, p < f → f < n → out f < 1000000 → CanP lo hi f n → best ≤ out f + 1) ∧ (best = 1000000 ∨ ∃ f : Nat, f < n ∧ out f < 1000000 ∧ CanP lo hi f n ∧ best = out f + 1)
theorem few_next (m : Late T lo hi) (hT : 0 ≤ T) {n : Nat} {out : Nat → Int} {best : Int} (h0 : 0 < n) (h1 : (n : Int) ≤ T) (hF : FewS T lo hi n out) (hB : BestS lo hi n out (-1) best) : ∀ k : Nat, k < 1000000 → (best ≤ k ↔ (n : Int) ≤ GE T lo hi k) := by
  obtain ⟨b0, b1, b2⟩ := hB
  have back : ∀ k : Nat, k < 1000000 → (n : Int) ≤ GE T lo hi k → best ≤ k := by
    intro k
    induction k with
    | zero => intro _ h; rw [GE] at h; omega
    | succ k ih =>
      intro hk h
      by_cases hn : (n : Int) ≤ GE T lo hi k
      · have := ih (by omega) hn
        omega
      · have r := GE_rng m hT k
        have e : (((GE T lo hi k).toNat : Nat) : Int) = GE T lo hi k := Int.toNat_of_nonneg r.1
        have f := (hF (GE T lo hi k).toNat (by omega)).2 k (by omega)
        have c := (can_iff m r.1 (by omega) h1).2 (by rw [GE] at h; exact h)
        have fb := f.2 (by omega)
        have q := b1 (GE T lo hi k).toNat (by omega) (by omega) (by omega) (by rw [e]; exact c)
        omega
  intro k hk
  refine ⟨fun h => ?_, back k hk⟩
  rcases b2 with b2 | ⟨f, f1, f2, f3, f4⟩
  · omega
  · have a := hF f f1
    obtain ⟨j, rfl⟩ : ∃ j, k = j + 1 := ⟨k - 1, by omega⟩
    have g := (a.2 j (by omega)).1 (by omega)
    have mo := GE_mono m (i := j) (j + 1) (by omega)
    by_cases hn : (n : Int) ≤ GE T lo hi j
    · omega
    · have r := GE_rng m hT j
      have c := m.late f (GE T lo hi j) n (by omega) g (by omega) h1 f3
      rw [GE]
      exact (can_iff m r.1 (by omega) h1).1 c
end
end Go.Proofs.Ythagjhadjpangaa.Cx

/- Package die: what one setting makes sure it does also if it begins later. -/
namespace Go.Proofs.Ythagjhadjpangaa.Cx
set_option linter.unusedVariables false
set_option linter.unusedSimpArgs false
set_option maxRecDepth 100000
set_option maxHeartbeats 4000000
open Go Go.RowKit
theorem LoM_le {t x : Int} {tl : Nat → Int} : ∀ m, LoM t tl m ≤ x ↔ t ≤ x ∧ ∀ j, j < m → tl j ≤ x
  | 0 => ⟨fun h => ⟨h, fun j hj => by omega⟩, fun h => h.1⟩
  | m + 1 => by
    rw [LoM]
    have := LoM_le (t := t) (x := x) (tl := tl) m
    constructor
    · intro h
      have a := this.1 (by omega)
      refine ⟨a.1, fun j hj => ?_⟩
      by_cases he : j < m
      · exact a.2 j he
      · obtain rfl : j = m := by omega
        omega
    · rintro ⟨h1, h2⟩
      have a := this.2 ⟨h1, fun j hj => h2 j (by omega)⟩
      have b := h2 m (by omega)
      omega
theorem HiM_ge {t x : Int} {th : Nat → Int} : ∀ m, x ≤ HiM t th m ↔ x ≤ t ∧ ∀ j, j < m → x ≤ th j
  | 0 => ⟨fun h => ⟨h, fun j hj => by omega⟩, fun h => h.1⟩
  | m + 1 => by
    rw [HiM]
    have := HiM_ge (t := t) (x := x) (th := th) m
    constructor
    · intro h
      have a := this.1 (by omega)
      refine ⟨a.1, fun j hj => ?_⟩
      by_cases he : j < m
      · exact a.2 j he
      · obtain rfl : j = m := by omega
        omega
    · rintro ⟨h1, h2⟩
      have a := this.2 ⟨h1, fun j hj => h2 j (by omega)⟩
      have b := h2 m (by omega)
      omega
theorem can_pairs {t t' : Int} {tl th : Nat → Int} {m : Nat} (h0 : t ≤ t') (h1 : ∀ j, j < m → tl j ≤ t') (h2 : ∀ j, j < m → t ≤ th j) : LoM t tl m ≤ HiM t' th m ↔ ∀ i j, i < m → j < m → tl i ≤ th j := by
  rw [LoM_le]
  constructor
  · rintro ⟨a, b⟩ i j hi hj
    exact ((HiM_ge m).1 (b i hi)).2 j hj
  · intro h
    exact ⟨(HiM_ge m).2 ⟨h0, h2⟩, fun i hi => (HiM_ge m).2 ⟨h1 i hi, fun j hj => h i j hi hj⟩⟩
theorem WSum_split {g : Int → Int} {f : Int} {d : Nat} : ∀ j, WSum g f (d + j) = WSum g f d + WSum g (f + d) j
  | 0 => by rw [Nat.add_zero, WSum, Int.add_zero]
  | j + 1 => by
    rw [show d + (j + 1) = (d + j) + 1 by omega, WSum, WSum, WSum_split j]
    rw [show f + ((d + j : Nat) : Int) = f + d + j by omega]
    omega
theorem WSum_le {g g' : Int → Int} {f : Int} : ∀ j : Nat, (∀ i : Nat, i < j → g (f + i) ≤ g' (f + i)) → WSum g f j ≤ WSum g' f j
  | 0, _ => Int.le_refl _
  | j + 1, h => by
    have a := WSum_le (g := g) (g' := g') (f := f) j (fun i hi => h i (by omega))
    have b := h j (by omega)
    rw [WSum, WSum]
    omega
section
variable {a0 : Bool} {a1 a2 a3 a4 : Int} {a5 : Nat} {a6 a7 : Nat → Int} {a8 : Nat} {a9 a10 a11 a12 : Nat → Int}
theorem JobOk.wle (h : JobOk a1 a2 a3 a4 a5 a6 a7 a8 a9 a10 a11 a12) {f : Int} {j : Nat} (h0 : 0 ≤ f) (h1 : f + j ≤ PS a9 a8) : WSum (gW a6 a10 a9 a8) f j ≤ WSum (gW a7 a10 a9 a8) f j := WSum_le j fun i hi => (h.at' (x := f + i) (by omega) (by omega)).2.2.2.2.1
theorem JobOk.tbd (h : JobOk a1 a2 a3 a4 a5 a6 a7 a8 a9 a10 a11 a12) {f : Int} {j : Nat} (h0 : 0 ≤ f) (h1 : f + j < PS a9 a8) : (-100000000000 ≤ tlP a0 a1 a3 a6 a7 a10 a9 a11 a8 f j ∧ tlP a0 a1 a3 a6 a7 a10 a9 a11 a8 f j ≤ 100000000000) ∧ (-100000000000 ≤ thP a0 a2 a4 a6 a7 a10 a9 a12 a8 f j ∧ thP a0 a2 a4 a6 a7 a10 a9 a12 a8 f j ≤ 100000000000) := by
  have w := h.wsum (f := f) (j := j) h0 (by omega)
  have t := (h.at' (x := f + j) (by omega) (by omega)).2.2.1
  obtain ⟨_, _, s1, s2⟩ := h.tool
  unfold VOk at s1 s2
  unfold tlP thP gL gH
  cases a0 <;> simp only [cond_true, cond_false] <;> omega
theorem JobOk.late (h : JobOk a1 a2 a3 a4 a5 a6 a7 a8 a9 a10 a11 a12) : Late (PS a9 a8) (loJ a0 a1 a3 a6 a7 a8 a9 a10 a11) (hiJ a0 a2 a4 a6 a7 a8 a9 a10 a12) := by
  refine ⟨narr, fun f f' n h0 h1 h2 h3 hc => ?_, fun f h0 h1 => ?_⟩
  · obtain ⟨d, rfl⟩ : ∃ d : Nat, f' = f + d := ⟨(f' - f).toNat, by omega⟩
    obtain ⟨m, rfl⟩ : ∃ m : Nat, n = f + d + m := ⟨(n - (f + d)).toNat, by omega⟩
    unfold CanP loJ hiJ at *
    rw [show (f + d + m - f).toNat = d + m by omega] at hc
    rw [show (f + d + m - (f + d)).toNat = m by omega]
    have b := fun j (hj : j < d + m) => h.tbd (a0 := a0) (f := f) (j := j) h0 (by omega)
    have b' := fun j (hj : j < m) => h.tbd (a0 := a0) (f := f + d) (j := j) (by omega) (by omega)
    rw [can_pairs (by omega) (fun j hj => by have := b j hj; omega) (fun j hj => by have := b j hj; omega)] at hc
    rw [can_pairs (by omega) (fun j hj => by have := b' j hj; omega) (fun j hj => by have := b' j hj; omega)]
    intro i j hi hj
    have q := hc (d + i) (d + j) (by omega) (by omega)
    have wl := h.wle (f := f) (j := d) h0 (by omega)
    have e1 : tlP a0 a1 a3 a6 a7 a10 a9 a11 a8 (f + d) i = tlP a0 a1 a3 a6 a7 a10 a9 a11 a8 f (d + i) + gL a0 (WSum (gW a6 a10 a9 a8) f d) (WSum (gW a7 a10 a9 a8) f d) := by
      unfold tlP gL
      rw [WSum_split, WSum_split, show f + d + (i : Int) = f + ((d + i : Nat) : Int) by omega]
      cases a0 <;> simp only [cond_true, cond_false] <;> omega
    have e2 : thP a0 a2 a4 a6 a7 a10 a9 a12 a8 (f + d) j = thP a0 a2 a4 a6 a7 a10 a9 a12 a8 f (d + j) + gH a0 (WSum (gW a6 a10 a9 a8) f d) (WSum (gW a7 a10 a9 a8) f d) := by
      unfold thP gH
      rw [WSum_split, WSum_split, show f + d + (j : Int) = f + ((d + j : Nat) : Int) by omega]
      cases a0 <;> simp only [cond_true, cond_false] <;> omega
    rw [e1, e2]
    unfold gL gH
    cases a0 <;> simp only [cond_true, cond_false] <;> omega
  · obtain ⟨_, J, hJ, _⟩ := rdr_val (a0 := a0) h h0 h1
    exact ⟨J, hJ⟩
end
end Go.Proofs.Ythagjhadjpangaa.Cx

/- acme/die.Looks as an automaton. Made by tools/cxauto.py. -/
namespace Go.Proofs.Ythagjhadjpangaa.Cx
set_option linter.unusedVariables false
set_option linter.unusedSimpArgs false
set_option maxRecDepth 100000
open Go Go.Proofs Go.RowKit
abbrev dloR := Int × Int
instance : Inhabited dloR := ⟨(0, 0)⟩
end Go.Proofs.Ythagjhadjpangaa.Cx

/- acme/acmeref07.Looks as an automaton. Made by tools/cxauto.py. -/
namespace Go.Proofs.Ythagjhadjpangaa.Cx
set_option linter.unusedVariables false
set_option linter.unusedSimpArgs false
set_option maxRecDepth 100000
open Go Go.Proofs Go.RowKit
abbrev rlkR := Int
instance : Inhabited rlkR := ⟨0⟩
end Go.Proofs.Ythagjhadjpangaa.Cx

/- Package die: one setting on one order; die.Looks and acmeref07.Looks. -/
namespace Go.Proofs.Ythagjhadjpangaa.Cx
set_option linter.unusedVariables false
set_option linter.unusedSimpArgs false
set_option maxRecDepth 100000
set_option maxHeartbeats 4000000
open Go Go.RowKit
section
variable {a0 : Bool} {a1 a2 a3 a4 : Int} {a5 : Nat} {a6 a7 : Nat → Int} {a9 a10 a11 a12 : Nat → Int}
end
section
variable {a0 : Bool} {a1 a2 a3 a4 : Int} {a5 : Nat} {a6 a7 : Nat → Int} {a8 a9 a10 a11 a12 : Int}
end
end Go.Proofs.Ythagjhadjpangaa.Cx

/- acme/acmelaw07.DieLearned$1 as an automaton. Made by tools/cxauto.py. -/
namespace Go.Proofs.Ythagjhadjpangaa.Cx
set_option linter.unusedVariables false
set_option linter.unusedSimpArgs false
set_option maxRecDepth 100000
open Go Go.Proofs Go.RowKit
abbrev denR := Bool
instance : Inhabited denR := ⟨false⟩
end Go.Proofs.Ythagjhadjpangaa.Cx

/- DieLearned: the closure that goes through pieces at one end; what it says of what Looks says. -/
namespace Go.Proofs.Ythagjhadjpangaa.Cx
set_option linter.unusedVariables false
set_option linter.unusedSimpArgs false
set_option maxRecDepth 100000
set_option maxHeartbeats 4000000
open Go Go.RowKit
section
variable {a0 : Int} {a1 : Bool} {a2 a3 : Int} {a4 : Bool} {a5 a6 a7 a8 : Int} {a9 : Nat} {a10 a11 : Nat → Int} {a12 a13 : Int}
end
end Go.Proofs.Ythagjhadjpangaa.Cx

/- (acme/acmelaw07.Shop).tool as an automaton. Made by tools/cxauto.py. -/
namespace Go.Proofs.Ythagjhadjpangaa.Cx
set_option linter.unusedVariables false
set_option linter.unusedSimpArgs false
set_option maxRecDepth 100000
open Go Go.Proofs Go.RowKit
noncomputable abbrev dtoCode : Code := funcCode Try.f48
inductive dtoN where
  | n0
  | n1 (p0 : Int) (p1 : Nat) (p2 p3 : Nat → Int)
inductive dtoR where
  | r0 (p0 : Bool) (p1 p2 p3 p4 : Int)
  | r1 (p0 : Bool) (p1 p2 p3 p4 : Int) (p5 : Nat) (p6 p7 : Nat → Int)
noncomputable def dtoD0 (a0 : Bool) (a1 a2 : Int) (a3 : Nat) (a4 a5 : Nat → Int) (a6 : Nat) (a7 a8 a9 a10 : Nat → Int) (a11 : Nat) (a12 : Nat → Int) : DD (Lf dtoN dtoR) :=
 .leaf (.next (.n0) [3, 4, 7])

noncomputable def dtoD (a0 : Bool) (a1 a2 : Int) (a3 : Nat) (a4 a5 : Nat → Int) (a6 : Nat) (a7 a8 a9 a10 : Nat → Int) (a11 : Nat) (a12 : Nat → Int) : dtoN → DD (Lf dtoN dtoR)
 | .n0 =>
 let z0 := decide (0 + Int.toNat 0 < a3)
 let z1 := Ar.run .conv .i64 (a4 (0 + Int.toNat 0)) 0
 let z2 := fun i => Ar.run .rem .i64 z1 20
 let z3 := fun i => Ar.run .add .i64 (Ar.run .rem .i64 z1 20) (Ar.run .rem .i64 (Ar.run .conv .i64 (a5 (0 + Int.toNat 0)) 0) 20)
 let z4 := Ar.run .conv .i64 a1 0
 let z5 := Ar.run .rem .i64 (Ar.run .sub .i64 0 z4) 20
 let z6 := Ar.run .quo .i64 z4 16
 let z7 := Ar.run .conv .i64 a2 0
 let z8 := Ar.run .rem .i64 (Ar.run .sub .i64 0 z7) 10
 let z9 := Ar.run .quo .i64 z7 32
 .ask (true)
   (.ask (Cm.run .lss 0 (↑a3 : Int))
   (.must (true)
   (.must (decide (0 < (↑a3 : Int)))
   (.must z0
   (.leaf (.next (.n1 1 1 z2 z3) [3, 4, 5, 9])))))
   (.leaf (.next (.n1 1 1 (fun i => 0) (fun i => 0)) [3, 4, 5, 9])))
   (.ask (Cm.run .lss 0 (↑a3 : Int))
   (.ask (true)
   (.ask (Cm.run .lss 0 (↑a3 : Int))
   (.must (true)
   (.must (decide (0 < (↑a3 : Int)))
   (.must z0
   (.leaf (.next (.n1 1 1 z2 z3) [3, 4, 5, 9])))))
   (.leaf (.next (.n1 1 1 (fun i => 0) (fun i => 0)) [3, 4, 5, 9])))
   (.leaf (.done (.r0 a0 z5 z6 z8 z9) [])))
   (.leaf (.done (.r0 a0 z5 z6 z8 z9) [])))
 | .n1 p0 p1 p2 p3 =>
 let z0 := decide (0 ≤ p0)
 let z1 := decide (0 + Int.toNat p0 < a3)
 let z2 := decide (0 + p1 ≤ p1)
 let z3 := decide (p1 + 1 ≤ 10000)
 let z4 := Ar.run .add .i64 p0 1
 let z5 := Ar.run .conv .i64 (a4 (0 + Int.toNat p0)) 0
 let z6 := fun i => bif Nat.blt i p1 then p2 (0 + i) else Ar.run .rem .i64 z5 20
 let z7 := fun i => bif Nat.blt i p1 then p3 (0 + i) else Ar.run .add .i64 (Ar.run .rem .i64 z5 20) (Ar.run .rem .i64 (Ar.run .conv .i64 (a5 (0 + Int.toNat p0)) 0) 20)
 let z8 := fun i => bif Nat.blt i p1 then p2 (0 + i) else 0
 let z9 := fun i => bif Nat.blt i p1 then p3 (0 + i) else 0
 let z10 := Ar.run .conv .i64 a1 0
 let z11 := Ar.run .rem .i64 (Ar.run .sub .i64 0 z10) 20
 let z12 := Ar.run .quo .i64 z10 16
 let z13 := Ar.run .conv .i64 a2 0
 let z14 := Ar.run .rem .i64 (Ar.run .sub .i64 0 z13) 10
 let z15 := Ar.run .quo .i64 z13 32
 .ask (Cm.run .eql p0 0)
   (.ask (Cm.run .lss p0 (↑a3 : Int))
   (.must z0
   (.must (decide (p0 < (↑a3 : Int)))
   (.must z1
   (.must z2
   (.must z3
   (.leaf (.next (.n1 z4 (p1 + 1) z6 z7) [3, 4, 5, 10])))))))
   (.must z2
   (.must z3
   (.leaf (.next (.n1 z4 (p1 + 1) z8 z9) [3, 4, 5, 10])))))
   (.ask (Cm.run .lss p0 (↑a3 : Int))
   (.ask (Cm.run .lss p0 3)
   (.ask (Cm.run .lss p0 (↑a3 : Int))
   (.must z0
   (.must (decide (p0 < (↑a3 : Int)))
   (.must z1
   (.must z2
   (.must z3
   (.leaf (.next (.n1 z4 (p1 + 1) z6 z7) [3, 4, 5, 10])))))))
   (.must z2
   (.must z3
   (.leaf (.next (.n1 z4 (p1 + 1) z8 z9) [3, 4, 5, 10])))))
   (.leaf (.done (.r1 a0 z11 z12 z14 z15 p1 (fun i => p2 i) (fun i => p3 i)) [6])))
   (.leaf (.done (.r1 a0 z11 z12 z14 z15 p1 (fun i => p2 i) (fun i => p3 i)) [6])))

noncomputable def dtoA (a0 : Bool) (a1 a2 : Int) (a3 : Nat) (a4 a5 : Nat → Int) (a6 : Nat) (a7 a8 a9 a10 : Nat → Int) (a11 : Nat) (a12 : Nat → Int) : AF dtoN dtoR where
  code := dtoCode
  base := 3
  nt := 79
  m := 400
  un := []
  W := []
  h0 := [(0, ⟨.arg a3 2 (fun i => [.int .u8 (.x (a4 i)), .int .u8 (.x (a5 i))]) (fun _ => ⟨rfl, rfl⟩), 2, true, none⟩), (1, ⟨.arg a6 4 (fun i => [.int .u8 (.x (a7 i)), .int .u8 (.x (a8 i)), .int .u8 (.x (a9 i)), .int .u8 (.x (a10 i))]) (fun _ => ⟨rfl, rfl⟩), 4, true, none⟩), (2, ⟨.arg a11 1 (fun i => [.int .u8 (.x (a12 i))]) (fun _ => ⟨rfl, rfl⟩), 1, true, none⟩)]
  args := [.agg [.bool (.x a0), .int .u8 (.x a1), .int .u8 (.x a2), .sla 0 2 0 a3, .sla 1 4 0 a6, .sla 2 1 0 a11]]
  res := (Try.f48).results.toList
  path := fun a => match a with
   | .n0 => [1, 1, 0, 1, 0]
   | .n1 p0 p1 p2 p3 => [1, 1, 0, 1, 0]
  pd := fun a => match a with
   | .n0 => ⟨[(1, .ptr (some (3, 0))), (2, .ptr (some (4, 0))), (3, .ptr (some (5, 0))), (4, .int .i64 (.x 0)), (26, .ptr (some (3, 1)))], [(3, ⟨.lit [.bool (.x a0), .int .u8 (.x a1), .int .u8 (.x a2), .sla 0 2 0 a3, .sla 1 4 0 a6, .sla 2 1 0 a11], 0, true, none⟩), (4, ⟨.lit [.bool (.x false), .int .i64 (.x 0), .int .i64 (.x 0), .int .i64 (.x 0), .int .i64 (.x 0), .slc none 0 0], 0, true, none⟩), (5, ⟨.lit [.bool (.x a0), .int .i64 (.x (Ar.run .rem .i64 (Ar.run .sub .i64 0 (Ar.run .conv .i64 a1 0)) 20)), .int .i64 (.x (Ar.run .quo .i64 (Ar.run .conv .i64 a1 0) 16)), .int .i64 (.x (Ar.run .rem .i64 (Ar.run .sub .i64 0 (Ar.run .conv .i64 a2 0)) 10)), .int .i64 (.x (Ar.run .quo .i64 (Ar.run .conv .i64 a2 0) 32)), .slc none 0 0], 0, true, none⟩)], 6, []⟩
   | .n1 p0 p1 p2 p3 => ⟨[(1, .ptr (some (3, 0))), (2, .ptr (some (4, 0))), (3, .ptr (some (5, 0))), (4, .int .i64 (.x p0)), (26, .ptr (some (3, 1)))], [(3, ⟨.lit [.bool (.x a0), .int .u8 (.x a1), .int .u8 (.x a2), .sla 0 2 0 a3, .sla 1 4 0 a6, .sla 2 1 0 a11], 0, true, none⟩), (4, ⟨.lit [.bool (.x false), .int .i64 (.x 0), .int .i64 (.x 0), .int .i64 (.x 0), .int .i64 (.x 0), .slc none 0 0], 0, true, none⟩), (5, ⟨.lit [.bool (.x a0), .int .i64 (.x (Ar.run .rem .i64 (Ar.run .sub .i64 0 (Ar.run .conv .i64 a1 0)) 20)), .int .i64 (.x (Ar.run .quo .i64 (Ar.run .conv .i64 a1 0) 16)), .int .i64 (.x (Ar.run .rem .i64 (Ar.run .sub .i64 0 (Ar.run .conv .i64 a2 0)) 10)), .int .i64 (.x (Ar.run .quo .i64 (Ar.run .conv .i64 a2 0) 32)), .slx 6 2 0 p1 p1], 0, true, none⟩), (6, ⟨.rows p1 2 (fun i => [.int .i64 (.x (p2 i)), .int .i64 (.x (p3 i))]) (fun _ => ⟨rfl, rfl⟩), 2, true, none⟩)], 7, []⟩
  D0 := dtoD0 a0 a1 a2 a3 a4 a5 a6 a7 a8 a9 a10 a11 a12
  D := dtoD a0 a1 a2 a3 a4 a5 a6 a7 a8 a9 a10 a11 a12
  rc := (fun v => match v with
 | .r0 p0 p1 p2 p3 p4 => .agg [.bool (.x p0), .int .i64 (.x p1), .int .i64 (.x p2), .int .i64 (.x p3), .int .i64 (.x p4), .slc none 0 0]
 | .r1 p0 p1 p2 p3 p4 p5 p6 p7 => .agg [.bool (.x p0), .int .i64 (.x p1), .int .i64 (.x p2), .int .i64 (.x p3), .int .i64 (.x p4), .slx 3 2 0 p5 p5])
  rh := (fun v => match v with
 | .r0 p0 p1 p2 p3 p4 => []
 | .r1 p0 p1 p2 p3 p4 p5 p6 p7 => [(3, ⟨.rows p5 2 (fun i => [.int .i64 (.x (p6 i)), .int .i64 (.x (p7 i))]) (fun _ => ⟨rfl, rfl⟩), 2, true, none⟩)])
  rn := (fun v => match v with
 | .r0 p0 p1 p2 p3 p4 => 3
 | .r1 p0 p1 p2 p3 p4 p5 p6 p7 => 4)
  rx := (fun v => match v with
 | .r0 p0 p1 p2 p3 p4 => []
 | .r1 p0 p1 p2 p3 p4 p5 p6 p7 => [])
  rgo := (fun _ => none)
theorem dtostart (a0 : Bool) (a1 a2 : Int) (a3 : Nat) (a4 a5 : Nat → Int) (a6 : Nat) (a7 a8 a9 a10 : Nat → Int) (a11 : Nat) (a12 : Nat → Int) : AF.edgeOk (dtoA a0 a1 a2 a3 a4 a5 a6 a7 a8 a9 a10 a11 a12) (ctxOf Try.prog memo0) (dtoD0 a0 a1 a2 a3 a4 a5 a6 a7 a8 a9 a10 a11 a12) (AF.run0 (dtoA a0 a1 a2 a3 a4 a5 a6 a7 a8 a9 a10 a11 a12) (ctxOf Try.prog memo0)) := by unfold AF.edgeOk; kernel_rfl
theorem dtonode0 (a0 : Bool) (a1 a2 : Int) (a3 : Nat) (a4 a5 : Nat → Int) (a6 : Nat) (a7 a8 a9 a10 : Nat → Int) (a11 : Nat) (a12 : Nat → Int) : AF.edgeOk (dtoA a0 a1 a2 a3 a4 a5 a6 a7 a8 a9 a10 a11 a12) (ctxOf Try.prog memo0) (dtoD a0 a1 a2 a3 a4 a5 a6 a7 a8 a9 a10 a11 a12 (.n0)) (AF.runN (dtoA a0 a1 a2 a3 a4 a5 a6 a7 a8 a9 a10 a11 a12) (ctxOf Try.prog memo0) (.n0)) := by unfold AF.edgeOk; kernel_rfl
theorem dtonode1 (a0 : Bool) (a1 a2 : Int) (a3 : Nat) (a4 a5 : Nat → Int) (a6 : Nat) (a7 a8 a9 a10 : Nat → Int) (a11 : Nat) (a12 : Nat → Int) (p0 : Int) (p1 : Nat) (p2 p3 : Nat → Int) : AF.edgeOk (dtoA a0 a1 a2 a3 a4 a5 a6 a7 a8 a9 a10 a11 a12) (ctxOf Try.prog memo0) (dtoD a0 a1 a2 a3 a4 a5 a6 a7 a8 a9 a10 a11 a12 (.n1 p0 p1 p2 p3)) (AF.runN (dtoA a0 a1 a2 a3 a4 a5 a6 a7 a8 a9 a10 a11 a12) (ctxOf Try.prog memo0) (.n1 p0 p1 p2 p3)) := by unfold AF.edgeOk; kernel_rfl
theorem dtook (a0 : Bool) (a1 a2 : Int) (a3 : Nat) (a4 a5 : Nat → Int) (a6 : Nat) (a7 a8 a9 a10 : Nat → Int) (a11 : Nat) (a12 : Nat → Int) : (dtoA a0 a1 a2 a3 a4 a5 a6 a7 a8 a9 a10 a11 a12).Ok Try.prog (ctxOf Try.prog memo0) where
  regs := by kernel_rfl
  h0 := by kernel_rfl
  start := dtostart a0 a1 a2 a3 a4 a5 a6 a7 a8 a9 a10 a11 a12
  node := fun a _ => match a with
   | .n0 => dtonode0 a0 a1 a2 a3 a4 a5 a6 a7 a8 a9 a10 a11 a12
   | .n1 p0 p1 p2 p3 => dtonode1 a0 a1 a2 a3 a4 a5 a6 a7 a8 a9 a10 a11 a12 p0 p1 p2 p3
  pd := fun a => match a with
   | .n0 => ⟨(fa_cons rfl (fa_cons rfl (fa_cons rfl (fa_cons rfl (fa_cons rfl fa_nil))))), (fa_cons ⟨.inl (Nat.le_of_ble_eq_true rfl), rfl, rfl⟩ (fa_cons ⟨.inl (Nat.le_of_ble_eq_true rfl), rfl, rfl⟩ (fa_cons ⟨.inl (Nat.le_of_ble_eq_true rfl), rfl, rfl⟩ fa_nil))), fa_nil, rfl⟩
   | .n1 p0 p1 p2 p3 => ⟨(fa_cons rfl (fa_cons rfl (fa_cons rfl (fa_cons rfl (fa_cons rfl fa_nil))))), (fa_cons ⟨.inl (Nat.le_of_ble_eq_true rfl), rfl, rfl⟩ (fa_cons ⟨.inl (Nat.le_of_ble_eq_true rfl), rfl, rfl⟩ (fa_cons ⟨.inl (Nat.le_of_ble_eq_true rfl), rfl, rfl⟩ (fa_cons ⟨.inl (Nat.le_of_ble_eq_true rfl), (fun _ => rfl), rfl⟩ fa_nil)))), fa_nil, rfl⟩
  le := fun a => match a with
   | .n0 => Nat.le_of_ble_eq_true rfl
   | .n1 p0 p1 p2 p3 => Nat.le_of_ble_eq_true rfl
  rd := fun v => match v with
   | .r0 p0 p1 p2 p3 p4 => ⟨⟨fa_nil, fa_nil, fa_nil, rfl⟩, rfl⟩
   | .r1 p0 p1 p2 p3 p4 p5 p6 p7 => ⟨⟨fa_nil, (fa_cons ⟨.inl (Nat.le_of_ble_eq_true rfl), (fun _ => rfl), rfl⟩ fa_nil), fa_nil, rfl⟩, rfl⟩
  wb := rfl
theorem dtohR {ρ : Env} (a0 : Bool) (a1 a2 : Int) (a3 : Nat) (a4 a5 : Nat → Int) (a6 : Nat) (a7 a8 a9 a10 : Nat → Int) (a11 : Nat) (a12 : Nat → Int) (hM : MemoOk Try.prog (ctxOf Try.prog memo0) ρ) : ∀ X a q n D, FxOk ρ X → X.base = (dtoA a0 a1 a2 a3 a4 a5 a6 a7 a8 a9 a10 a11 a12).base → X.nt = (dtoA a0 a1 a2 a3 a4 a5 a6 a7 a8 a9 a10 a11 a12).nt → X.W = (dtoA a0 a1 a2 a3 a4 a5 a6 a7 a8 a9 a10 a11 a12).W → (dtoA a0 a1 a2 a3 a4 a5 a6 a7 a8 a9 a10 a11 a12).rgo a = some q → q n = some D → (dtoA a0 a1 a2 a3 a4 a5 a6 a7 a8 a9 a10 a11 a12).RangeOk Try.prog ρ X a D := AF.noRange rfl
theorem dtoctr {ρ : Env} (a0 : Bool) (a1 a2 : Int) (a3 : Nat) (a4 a5 : Nat → Int) (a6 : Nat) (a7 a8 a9 a10 : Nat → Int) (a11 : Nat) (a12 : Nat → Int) {n : Nat} {v : dtoR} (hM : MemoOk Try.prog (ctxOf Try.prog memo0) ρ) (hv : (dtoA a0 a1 a2 a3 a4 a5 a6 a7 a8 a9 a10 a11 a12).run n = some v) :
    Ctr Try.prog ρ 48 (dtoA a0 a1 a2 a3 a4 a5 a6 a7 a8 a9 a10 a11 a12).args (dtoA a0 a1 a2 a3 a4 a5 a6 a7 a8 a9 a10 a11 a12).H0 (dtoA a0 a1 a2 a3 a4 a5 a6 a7 a8 a9 a10 a11 a12).base (dtoA a0 a1 a2 a3 a4 a5 a6 a7 a8 a9 a10 a11 a12).W ((dtoA a0 a1 a2 a3 a4 a5 a6 a7 a8 a9 a10 a11 a12).rc v) (putH (dtoA a0 a1 a2 a3 a4 a5 a6 a7 a8 a9 a10 a11 a12).H0 ((dtoA a0 a1 a2 a3 a4 a5 a6 a7 a8 a9 a10 a11 a12).rh v ++ (dtoA a0 a1 a2 a3 a4 a5 a6 a7 a8 a9 a10 a11 a12).rx v)) ((dtoA a0 a1 a2 a3 a4 a5 a6 a7 a8 a9 a10 a11 a12).rn v) :=
  AF.ctr try_ok hM (dtook a0 a1 a2 a3 a4 a5 a6 a7 a8 a9 a10 a11 a12) (fn := Try.f48) Try.func48 rfl rfl (Nat.le_of_ble_eq_true rfl) rfl (dtohR a0 a1 a2 a3 a4 a5 a6 a7 a8 a9 a10 a11 a12 hM) hv
theorem dtomem {ρ : Env} : MemoOk Try.prog (ctxOf Try.prog memo0) ρ := memo0_ok
abbrev dtoP : List AQ := [.agg [.bool, .int .u8, .int .u8, .rows [some .u8, some .u8], .rows [some .u8, some .u8, some .u8, some .u8], .rows [some .u8]]]
noncomputable def dtoF (v : AW) : AF dtoN dtoR := dtoA (v.b.getD 0 false) (v.i.getD 0 0) (v.i.getD 1 0) (v.t.getD 0 .none).n ((v.t.getD 0 .none).c 0) ((v.t.getD 0 .none).c 1) (v.t.getD 1 .none).n ((v.t.getD 1 .none).c 0) ((v.t.getD 1 .none).c 1) ((v.t.getD 1 .none).c 2) ((v.t.getD 1 .none).c 3) (v.t.getD 2 .none).n ((v.t.getD 2 .none).c 0)
def dtow0 : dtoR → Bool
  | .r0 p0 p1 p2 p3 p4 => p0
  | .r1 p0 p1 p2 p3 p4 p5 p6 p7 => p0
def dtow1 : dtoR → Int
  | .r0 p0 p1 p2 p3 p4 => p1
  | .r1 p0 p1 p2 p3 p4 p5 p6 p7 => p1
def dtow2 : dtoR → Int
  | .r0 p0 p1 p2 p3 p4 => p2
  | .r1 p0 p1 p2 p3 p4 p5 p6 p7 => p2
def dtow3 : dtoR → Int
  | .r0 p0 p1 p2 p3 p4 => p3
  | .r1 p0 p1 p2 p3 p4 p5 p6 p7 => p3
def dtow4 : dtoR → Int
  | .r0 p0 p1 p2 p3 p4 => p4
  | .r1 p0 p1 p2 p3 p4 p5 p6 p7 => p4
def dtow5 : dtoR → Nat
  | .r0 p0 p1 p2 p3 p4 => 0
  | .r1 p0 p1 p2 p3 p4 p5 p6 p7 => p5
def dtow6 : dtoR → (Nat → Int)
  | .r0 p0 p1 p2 p3 p4 => fun _ => 0
  | .r1 p0 p1 p2 p3 p4 p5 p6 p7 => p6
def dtow7 : dtoR → (Nat → Int)
  | .r0 p0 p1 p2 p3 p4 => fun _ => 0
  | .r1 p0 p1 p2 p3 p4 p5 p6 p7 => p7
noncomputable def dtoW : dtoR → CV := fun v => .agg [.bool (.x ((dtow0 v))), .int .i64 (.x ((dtow1 v))), .int .i64 (.x ((dtow2 v))), .int .i64 (.x ((dtow3 v))), .int .i64 (.x ((dtow4 v))), .sla 3 2 0 ((dtow5 v))]
noncomputable def dtoH : dtoR → List (Nat × Blk) := fun v => [(3, ⟨.rows ((dtow5 v)) 2 (fun i => [.int .i64 (.x ((dtow6 v) i)), .int .i64 (.x ((dtow7 v) i))]) (fun _ => ⟨rfl, rfl⟩), 2, true, none⟩)]
instance : Inhabited dtoR := ⟨.r0 false 0 0 0 0⟩
theorem dtoknown {ρ : Env} (hM : MemoOk Try.prog (ctxOf Try.prog memo0) ρ) : KnownS Try.prog ρ 48 dtoP dtoF dtoW dtoH 4 where
  fn := ⟨Try.f48, Try.func48, rfl⟩
  le := Nat.le_of_ble_eq_true rfl
  full := fun r => rfl
  rg := fun r => rfl
  hg := fun r => (fa_cons ⟨fun _ => rfl, rfl⟩ fa_nil)
  ctr := fun v n r h => match r, h with
    | .r0 p0 p1 p2 p3 p4, h => Ctr.weaken (dtoctr (v.b.getD 0 false) (v.i.getD 0 0) (v.i.getD 1 0) (v.t.getD 0 .none).n ((v.t.getD 0 .none).c 0) ((v.t.getD 0 .none).c 1) (v.t.getD 1 .none).n ((v.t.getD 1 .none).c 0) ((v.t.getD 1 .none).c 1) ((v.t.getD 1 .none).c 2) ((v.t.getD 1 .none).c 3) (v.t.getD 2 .none).n ((v.t.getD 2 .none).c 0) hM h) (Nat.le_of_ble_eq_true rfl) (Nat.le_of_ble_eq_true rfl) (fun σ => (fun _ h => VR.agg_imp (VRl.cons_imp (fun _ h => h) (VRl.cons_imp (fun _ h => h) (VRl.cons_imp (fun _ h => h) (VRl.cons_imp (fun _ h => h) (VRl.cons_imp (fun _ h => h) (VRl.cons_imp (fun _ h => h.nil_sla) VRl.nil_imp)))))) h)) (fun b h1 h2 => absurd (Nat.lt_of_le_of_lt h1 h2) (Nat.lt_irrefl _))
    | .r1 p0 p1 p2 p3 p4 p5 p6 p7, h => Ctr.weaken (dtoctr (v.b.getD 0 false) (v.i.getD 0 0) (v.i.getD 1 0) (v.t.getD 0 .none).n ((v.t.getD 0 .none).c 0) ((v.t.getD 0 .none).c 1) (v.t.getD 1 .none).n ((v.t.getD 1 .none).c 0) ((v.t.getD 1 .none).c 1) ((v.t.getD 1 .none).c 2) ((v.t.getD 1 .none).c 3) (v.t.getD 2 .none).n ((v.t.getD 2 .none).c 0) hM h) (Nat.le_of_ble_eq_true rfl) (Nat.le_of_ble_eq_true rfl) (fun σ => (fun _ h => VR.agg_imp (VRl.cons_imp (fun _ h => h) (VRl.cons_imp (fun _ h => h) (VRl.cons_imp (fun _ h => h) (VRl.cons_imp (fun _ h => h) (VRl.cons_imp (fun _ h => h) (VRl.cons_imp (fun _ h => h.as_sla) VRl.nil_imp)))))) h)) (fun b h1 h2 => rfl)
end Go.Proofs.Ythagjhadjpangaa.Cx

/- DieLearned: the tool that is made. -/
namespace Go.Proofs.Ythagjhadjpangaa.Cx
set_option linter.unusedVariables false
set_option linter.unusedSimpArgs false
set_option maxRecDepth 100000
set_option maxHeartbeats 4000000
open Go Go.RowKit
theorem conv_byte {x : Int} (h : 0 ≤ x ∧ x ≤ 255) : Ar.run .conv .i64 x 0 = x := IntWalk.i64_in _ (by omega)
theorem rem_pos {x k : Int} (h : 0 ≤ x) (hk : 0 < k) : 0 ≤ Ar.run .rem .i64 x k ∧ Ar.run .rem .i64 x k < k ∧ Ar.run .rem .i64 x k ≤ x := by
  show 0 ≤ x.tmod k ∧ x.tmod k < k ∧ x.tmod k ≤ x
  refine ⟨Int.tmod_nonneg _ h, Int.tmod_lt_of_pos _ hk, ?_⟩
  rw [Int.tmod_eq_emod_of_nonneg h]
  have := Int.mul_ediv_add_emod x k
  have h2 : 0 ≤ k * (x / k) := Int.mul_nonneg (by omega) (Int.ediv_nonneg h (by omega))
  omega
theorem rem_neg {x k : Int} (h : 0 ≤ x) (hk : 0 < k) : -k < Ar.run .rem .i64 (0 - x) k ∧ Ar.run .rem .i64 (0 - x) k ≤ 0 := by
  show -k < (0 - x).tmod k ∧ (0 - x).tmod k ≤ 0
  rw [Int.zero_sub, Int.neg_tmod]
  have h1 := Int.tmod_nonneg k h
  have h2 := Int.tmod_lt_of_pos x hk
  omega
theorem quo_byte {x : Int} {k : Int} (h : 0 ≤ x ∧ x ≤ 255) (hk : 1 ≤ k) : 0 ≤ Ar.run .quo .i64 x k ∧ Ar.run .quo .i64 x k ≤ x / k ∧ x / k ≤ Ar.run .quo .i64 x k := by
  have e : x.tdiv k = x / k := Int.tdiv_eq_ediv_of_nonneg h.1
  have h1 : 0 ≤ x / k := Int.ediv_nonneg h.1 (by omega)
  have h2 : x / k ≤ x := Int.ediv_le_self k h.1
  have e2 : Ar.run .quo .i64 x k = x / k := by rw [arQuo (by rw [e]; omega), e]
  rw [e2]
  exact ⟨h1, Int.le_refl _, Int.le_refl _⟩
def RowOk (l h : Int) : Prop := 0 ≤ l ∧ l ≤ h ∧ h ≤ 38
def TlOk : dtoR → Prop
  | .r0 _ _ _ _ _ => False
  | .r1 p0 p1 p2 p3 p4 p5 p6 p7 => (-19 ≤ p1 ∧ p1 ≤ 0) ∧ (0 ≤ p2 ∧ p2 ≤ 15) ∧ (-9 ≤ p3 ∧ p3 ≤ 0) ∧ (0 ≤ p4 ∧ p4 ≤ 7) ∧ (1 ≤ p5 ∧ p5 ≤ 3) ∧ ∀ i : Nat, i < p5 → RowOk (p6 i) (p7 i)
section
variable {a0 : Bool} {a1 a2 : Int} {a3 : Nat} {a4 a5 : Nat → Int} {a6 : Nat} {a7 a8 a9 a10 : Nat → Int} {a11 : Nat} {a12 : Nat → Int}
theorem dto_val (h1 : 0 ≤ a1 ∧ a1 ≤ 255) (h2 : 0 ≤ a2 ∧ a2 ≤ 255) (h4 : ∀ i, 0 ≤ a4 i ∧ a4 i ≤ 255) (h5 : ∀ i, 0 ≤ a5 i ∧ a5 i ≤ 255) : AF.fin (dtoA a0 a1 a2 a3 a4 a5 a6 a7 a8 a9 a10 a11 a12) = true ∧ TlOk (AF.val (dtoA a0 a1 a2 a3 a4 a5 a6 a7 a8 a9 a10 a11 a12)) := by
  have row : ∀ i, RowOk (Ar.run .rem .i64 (Ar.run .conv .i64 (a4 i) 0) 20) (Ar.run .add .i64 (Ar.run .rem .i64 (Ar.run .conv .i64 (a4 i) 0) 20) (Ar.run .rem .i64 (Ar.run .conv .i64 (a5 i) 0) 20)) := fun i => by
    rw [conv_byte (h4 i), conv_byte (h5 i)]
    have r1 := rem_pos (h4 i).1 (show (0 : Int) < 20 by omega)
    have r2 := rem_pos (h5 i).1 (show (0 : Int) < 20 by omega)
    rw [arAdd (by omega)]
    unfold RowOk
    omega
  have zero : RowOk 0 0 := by unfold RowOk; omega
  have ext : ∀ (p : Nat) (c d : Nat → Int) (x y : Int), (∀ i : Nat, i < p → RowOk (c i) (d i)) → RowOk x y → ∀ i : Nat, i < p + 1 → RowOk (bif Nat.blt i p then c i else x) (bif Nat.blt i p then d i else y) := fun p c d x y hc hx i hi => by
    cases hb : Nat.blt i p with
    | true => exact hc i (by simpa [Nat.blt_eq] using hb)
    | false => exact hx
  have done : ∀ (p0 : Bool) (p5 : Nat) (p6 p7 : Nat → Int), (1 ≤ p5 ∧ p5 ≤ 3) → (∀ i : Nat, i < p5 → RowOk (p6 i) (p7 i)) → TlOk (.r1 p0 (Ar.run .rem .i64 (Ar.run .sub .i64 0 (Ar.run .conv .i64 a1 0)) 20) (Ar.run .quo .i64 (Ar.run .conv .i64 a1 0) 16) (Ar.run .rem .i64 (Ar.run .sub .i64 0 (Ar.run .conv .i64 a2 0)) 10) (Ar.run .quo .i64 (Ar.run .conv .i64 a2 0) 32) p5 p6 p7) := fun p0 p5 p6 p7 hp hr => by
    rw [conv_byte h1, conv_byte h2, arSub (a := 0) (b := a1) (by omega), arSub (a := 0) (b := a2) (by omega)]
    have r1 := rem_neg h1.1 (show (0 : Int) < 20 by omega)
    have r2 := rem_neg h2.1 (show (0 : Int) < 10 by omega)
    have q1 := quo_byte h1 (show (1 : Int) ≤ 16 by omega)
    have q2 := quo_byte h2 (show (1 : Int) ≤ 32 by omega)
    exact ⟨by omega, by omega, by omega, by omega, hp, hr⟩
  refine AF.val_sat (E := TlOk)
    (Inv := fun b => match b with | .n0 => True | .n1 p0 p1 p2 p3 => 1 ≤ p0 ∧ p0 ≤ 3 ∧ (p1 : Int) = p0 ∧ ∀ i : Nat, i < p1 → RowOk (p2 i) (p3 i))
    (fun b => match b with | .n0 => 10 | .n1 p0 p1 p2 p3 => (3 - p0).toNat) (fun _ => rfl) (fun a hI => ?_) ?_
  · cases a with
    | n0 =>
      show DD.sat _ _ (dtoD a0 a1 a2 a3 a4 a5 a6 a7 a8 a9 a10 a11 a12 .n0)
      unfold dtoD
      simp only [DD.sat, cmLss, cmLssF, Nat.zero_add, Int.toNat_zero, decide_eq_true_eq]
      refine ⟨fun _ => ⟨fun h => ⟨trivial, h, by omega, ⟨by omega, by omega, by decide, fun i _ => row 0⟩, by decide⟩, fun h => ⟨⟨by omega, by omega, by decide, fun i _ => zero⟩, by decide⟩⟩, fun h => (by cases h)⟩
    | n1 p0 p1 p2 p3 =>
      obtain ⟨g0, g1, g2, g3⟩ := hI
      show DD.sat _ _ (dtoD a0 a1 a2 a3 a4 a5 a6 a7 a8 a9 a10 a11 a12 (.n1 p0 p1 p2 p3))
      unfold dtoD
      have ea : Ar.run .add .i64 p0 1 = p0 + 1 := arAdd (by omega)
      simp only [DD.sat, cmLss, cmLssF, cmEql, cmEqlF, Nat.zero_add, decide_eq_true_eq, ea]
      refine ⟨fun h => by omega, fun _ => ⟨fun h => ⟨fun h3 => ⟨fun _ => ⟨by omega, h, by omega, Nat.le_refl _, by omega, ⟨by omega, by omega, by omega, ext p1 p2 p3 _ _ g3 (row p0.toNat)⟩, by omega⟩, fun h' => by omega⟩, fun h3 => done _ _ _ _ (by omega) g3⟩, fun h => done _ _ _ _ (by omega) g3⟩⟩
  · show True
    trivial
end
end Go.Proofs.Ythagjhadjpangaa.Cx

/- acme/acmelaw07.all as an automaton. Made by tools/cxauto.py. -/
namespace Go.Proofs.Ythagjhadjpangaa.Cx
set_option linter.unusedVariables false
set_option linter.unusedSimpArgs false
set_option maxRecDepth 100000
open Go Go.Proofs Go.RowKit
noncomputable abbrev dalCode : Code := funcCode Try.f50
inductive dalN where
  | n0 (p0 p1 : Int)
abbrev dalR := Int
noncomputable def dalD0 (a0 : Nat) (a1 a2 a3 a4 : Nat → Int) : DD (Lf dalN dalR) :=
 .leaf (.next (.n0 0 0) [])

noncomputable def dalD (a0 : Nat) (a1 a2 a3 a4 : Nat → Int) : dalN → DD (Lf dalN dalR)
 | .n0 p0 p1 =>
 .ask (Cm.run .lss p1 (↑a0 : Int))
   (.must (decide (0 ≤ p1))
   (.must (decide (p1 < (↑a0 : Int)))
   (.must (decide (0 + Int.toNat p1 < a0))
   (.leaf (.next (.n0 (Ar.run .add .i64 p0 (a1 (0 + Int.toNat p1))) (Ar.run .add .i64 p1 1)) [])))))
   (.leaf (.done p0 []))

noncomputable def dalA (a0 : Nat) (a1 a2 a3 a4 : Nat → Int) : AF dalN dalR where
  code := dalCode
  base := 1
  nt := 19
  m := 400
  un := []
  W := []
  h0 := [(0, ⟨.arg a0 4 (fun i => [.int .i64 (.x (a1 i)), .int .i64 (.x (a2 i)), .int .i64 (.x (a3 i)), .int .i64 (.x (a4 i))]) (fun _ => ⟨rfl, rfl⟩), 4, true, none⟩)]
  args := [.sla 0 4 0 a0]
  res := (Try.f50).results.toList
  path := fun a => match a with
   | .n0 p0 p1 => [1, 1, 0, 1, 0]
  pd := fun a => match a with
   | .n0 p0 p1 => ⟨[(0, .sla 0 4 0 a0), (3, .int .i64 (.x p0)), (4, .int .i64 (.x p1))], [], 1, []⟩
  D0 := dalD0 a0 a1 a2 a3 a4
  D := dalD a0 a1 a2 a3 a4
  rc := (fun v => .int .i64 (.x v))
  rh := (fun v => [])
  rn := (fun v => 1)
  rx := (fun v => [])
  rgo := (fun _ => none)
theorem dalstart (a0 : Nat) (a1 a2 a3 a4 : Nat → Int) : AF.edgeOk (dalA a0 a1 a2 a3 a4) (ctxOf Try.prog memo0) (dalD0 a0 a1 a2 a3 a4) (AF.run0 (dalA a0 a1 a2 a3 a4) (ctxOf Try.prog memo0)) := by unfold AF.edgeOk; kernel_rfl
theorem dalnode0 (a0 : Nat) (a1 a2 a3 a4 : Nat → Int) (p0 p1 : Int) : AF.edgeOk (dalA a0 a1 a2 a3 a4) (ctxOf Try.prog memo0) (dalD a0 a1 a2 a3 a4 (.n0 p0 p1)) (AF.runN (dalA a0 a1 a2 a3 a4) (ctxOf Try.prog memo0) (.n0 p0 p1)) := by unfold AF.edgeOk; kernel_rfl
theorem dalok (a0 : Nat) (a1 a2 a3 a4 : Nat → Int) : (dalA a0 a1 a2 a3 a4).Ok Try.prog (ctxOf Try.prog memo0) where
  regs := by kernel_rfl
  h0 := by kernel_rfl
  start := dalstart a0 a1 a2 a3 a4
  node := fun a _ => match a with
   | .n0 p0 p1 => dalnode0 a0 a1 a2 a3 a4 p0 p1
  pd := fun a => match a with
   | .n0 p0 p1 => ⟨(fa_cons rfl (fa_cons rfl (fa_cons rfl fa_nil))), fa_nil, fa_nil, rfl⟩
  le := fun a => match a with
   | .n0 p0 p1 => Nat.le_of_ble_eq_true rfl
  rd := fun v => ⟨⟨fa_nil, fa_nil, fa_nil, rfl⟩, rfl⟩
  wb := rfl
theorem dalhR {ρ : Env} (a0 : Nat) (a1 a2 a3 a4 : Nat → Int) (hM : MemoOk Try.prog (ctxOf Try.prog memo0) ρ) : ∀ X a q n D, FxOk ρ X → X.base = (dalA a0 a1 a2 a3 a4).base → X.nt = (dalA a0 a1 a2 a3 a4).nt → X.W = (dalA a0 a1 a2 a3 a4).W → (dalA a0 a1 a2 a3 a4).rgo a = some q → q n = some D → (dalA a0 a1 a2 a3 a4).RangeOk Try.prog ρ X a D := AF.noRange rfl
theorem dalctr {ρ : Env} (a0 : Nat) (a1 a2 a3 a4 : Nat → Int) {n : Nat} {v : dalR} (hM : MemoOk Try.prog (ctxOf Try.prog memo0) ρ) (hv : (dalA a0 a1 a2 a3 a4).run n = some v) :
    Ctr Try.prog ρ 50 (dalA a0 a1 a2 a3 a4).args (dalA a0 a1 a2 a3 a4).H0 (dalA a0 a1 a2 a3 a4).base (dalA a0 a1 a2 a3 a4).W ((dalA a0 a1 a2 a3 a4).rc v) (putH (dalA a0 a1 a2 a3 a4).H0 ((dalA a0 a1 a2 a3 a4).rh v ++ (dalA a0 a1 a2 a3 a4).rx v)) ((dalA a0 a1 a2 a3 a4).rn v) :=
  AF.ctr try_ok hM (dalok a0 a1 a2 a3 a4) (fn := Try.f50) Try.func50 rfl rfl (Nat.le_of_ble_eq_true rfl) rfl (dalhR a0 a1 a2 a3 a4 hM) hv
theorem dalmem {ρ : Env} : MemoOk Try.prog (ctxOf Try.prog memo0) ρ := memo0_ok
abbrev dalP : List AQ := [.rows [some .i64, some .i64, some .i64, some .i64]]
noncomputable def dalF (v : AW) : AF dalN dalR := dalA (v.t.getD 0 .none).n ((v.t.getD 0 .none).c 0) ((v.t.getD 0 .none).c 1) ((v.t.getD 0 .none).c 2) ((v.t.getD 0 .none).c 3)
noncomputable def dalW : dalR → CV := fun v => .int .i64 (.x v)
noncomputable def dalH : dalR → List (Nat × Blk) := fun v => []
instance : Inhabited dalR := ⟨0⟩
theorem dalknown {ρ : Env} (hM : MemoOk Try.prog (ctxOf Try.prog memo0) ρ) : KnownS Try.prog ρ 50 dalP dalF dalW dalH 1 where
  fn := ⟨Try.f50, Try.func50, rfl⟩
  le := Nat.le_of_ble_eq_true rfl
  full := fun r => rfl
  rg := fun r => rfl
  hg := fun r => fa_nil
  ctr := fun v n r h => dalctr (v.t.getD 0 .none).n ((v.t.getD 0 .none).c 0) ((v.t.getD 0 .none).c 1) ((v.t.getD 0 .none).c 2) ((v.t.getD 0 .none).c 3) hM h
end Go.Proofs.Ythagjhadjpangaa.Cx

/- acme/acmelaw07.order as an automaton. Made by tools/cxauto.py. -/
namespace Go.Proofs.Ythagjhadjpangaa.Cx
set_option linter.unusedVariables false
set_option linter.unusedSimpArgs false
set_option maxRecDepth 100000
open Go Go.Proofs Go.RowKit
abbrev dodR := Int × Int × Int × Int
instance : Inhabited dodR := ⟨(0, 0, 0, 0)⟩
end Go.Proofs.Ythagjhadjpangaa.Cx

/- (acme/acmelaw07.Shop).cuts$1 as an automaton. Made by tools/cxauto.py. -/
namespace Go.Proofs.Ythagjhadjpangaa.Cx
set_option linter.unusedVariables false
set_option linter.unusedSimpArgs false
set_option maxRecDepth 100000
open Go Go.Proofs Go.RowKit
abbrev dpkR := Int
instance : Inhabited dpkR := ⟨0⟩
end Go.Proofs.Ythagjhadjpangaa.Cx

/- (acme/acmelaw07.Shop).cuts as an automaton. Made by tools/cxauto.py. -/
namespace Go.Proofs.Ythagjhadjpangaa.Cx
set_option linter.unusedVariables false
set_option linter.unusedSimpArgs false
set_option maxRecDepth 100000
open Go Go.Proofs Go.RowKit
abbrev dcuR := Bool
instance : Inhabited dcuR := ⟨false⟩
end Go.Proofs.Ythagjhadjpangaa.Cx

/- (acme/acmelaw07.Shop).orders as an automaton. Made by tools/cxauto.py. -/
namespace Go.Proofs.Ythagjhadjpangaa.Cx
set_option linter.unusedVariables false
set_option linter.unusedSimpArgs false
set_option maxRecDepth 100000
open Go Go.Proofs Go.RowKit
noncomputable abbrev dosCode : Code := funcCode Try.f49
inductive dosN where
  | n0 (p0 : Int)
  | n1 (p0 : Nat) (p1 p2 : Int) (p3 p4 p5 p6 : Nat → Int)
inductive dosR where
  | r0
  | r1 (p0 : Nat) (p1 p2 p3 p4 : Nat → Int)
noncomputable def dosD0 (a0 : Bool) (a1 a2 : Int) (a3 : Nat) (a4 a5 : Nat → Int) (a6 : Nat) (a7 a8 a9 a10 : Nat → Int) (a11 : Nat) (a12 : Nat → Int) : DD (Lf dosN dosR) :=
 let z0 := fun i => [CV.int IntKind.u8 (IE.x (a4 (0 + i))), CV.int IntKind.u8 (IE.x (a5 (0 + i)))]
 let z1 := fun i => [CV.int IntKind.u8 (IE.x (a7 (0 + i))), CV.int IntKind.u8 (IE.x (a8 (0 + i))), CV.int IntKind.u8 (IE.x (a9 (0 + i))), CV.int IntKind.u8 (IE.x (a10 (0 + i)))]
 let z2 := fun i => [CV.int IntKind.u8 (IE.x (a12 (0 + i)))]
 let z3 := dtoA a0 a1 a2 a3 (fun i => a4 (0 + i)) (fun i => a5 (0 + i)) a6 (fun i => a7 (0 + i)) (fun i => a8 (0 + i)) (fun i => a9 (0 + i)) (fun i => a10 (0 + i)) a11 (fun i => a12 (0 + i))
 .must (decide (0 + a3 ≤ a3))
   (.must (ShapeOk [some IntKind.u8, some IntKind.u8] (tabOf a3 z0) z0)
   (.must (decide (0 + a6 ≤ a6))
   (.must (ShapeOk [some IntKind.u8, some IntKind.u8, some IntKind.u8, some IntKind.u8] (tabOf a6 z1) z1)
   (.must (decide (0 + a11 ≤ a11))
   (.must (ShapeOk [some IntKind.u8] (tabOf a11 z2) z2)
   (.must (AF.fin z3)
   (.leaf (.next (.n0 (↑(dtow5 (AF.val z3)))) [3, 4]))))))))

noncomputable def dosD (a0 : Bool) (a1 a2 : Int) (a3 : Nat) (a4 a5 : Nat → Int) (a6 : Nat) (a7 a8 a9 a10 : Nat → Int) (a11 : Nat) (a12 : Nat → Int) : dosN → DD (Lf dosN dosR)
 | .n0 p0 =>
 let z0 := decide (0 + Int.toNat 0 < a6)
 let z1 := Cm.run .neq p0 0
 let z2 := fun i => Ar.run .add .i64 1 (Ar.run .rem .i64 (Ar.run .conv .i64 (a7 (0 + Int.toNat 0)) 0) 30)
 let z3 := fun i => Ar.run .rem .i64 (Ar.run .conv .i64 (a8 (0 + Int.toNat 0)) 0) p0
 let z4 := Ar.run .rem .i64 (Ar.run .conv .i64 (a9 (0 + Int.toNat 0)) 0) 60
 let z5 := fun i => Ar.run .add .i64 10000 z4
 let z6 := fun i => Ar.run .add .i64 (Ar.run .add .i64 10000 z4) (Ar.run .conv .i64 (a10 (0 + Int.toNat 0)) 0)
 let z7 := fun i => Ar.run .rem .i64 0 p0
 .ask (true)
   (.ask (Cm.run .lss 0 (↑a6 : Int))
   (.must (true)
   (.must (decide (0 < (↑a6 : Int)))
   (.must z0
   (.must z1
   (.leaf (.next (.n1 1 p0 1 z2 z3 z5 z6) [3, 8]))))))
   (.must z1
   (.leaf (.next (.n1 1 p0 1 (fun i => 4) z7 (fun i => 10040) (fun i => 10240)) [3, 8]))))
   (.ask (Cm.run .lss 0 (↑a6 : Int))
   (.ask (true)
   (.ask (Cm.run .lss 0 (↑a6 : Int))
   (.must (true)
   (.must (decide (0 < (↑a6 : Int)))
   (.must z0
   (.must z1
   (.leaf (.next (.n1 1 p0 1 z2 z3 z5 z6) [3, 8]))))))
   (.must z1
   (.leaf (.next (.n1 1 p0 1 (fun i => 4) z7 (fun i => 10040) (fun i => 10240)) [3, 8]))))
   (.leaf (.done (.r0) [4])))
   (.leaf (.done (.r0) [4])))
 | .n1 p0 p1 p2 p3 p4 p5 p6 =>
 let z0 := decide (0 ≤ p2)
 let z1 := decide (0 + Int.toNat p2 < a6)
 let z2 := Cm.run .neq p1 0
 let z3 := decide (0 + p0 ≤ p0)
 let z4 := decide (p0 + 1 ≤ 10000)
 let z5 := Ar.run .add .i64 p2 1
 let z6 := fun i => bif Nat.blt i p0 then p3 (0 + i) else Ar.run .add .i64 1 (Ar.run .rem .i64 (Ar.run .conv .i64 (a7 (0 + Int.toNat p2)) 0) 30)
 let z7 := fun i => bif Nat.blt i p0 then p4 (0 + i) else Ar.run .rem .i64 (Ar.run .conv .i64 (a8 (0 + Int.toNat p2)) 0) p1
 let z8 := Ar.run .rem .i64 (Ar.run .conv .i64 (a9 (0 + Int.toNat p2)) 0) 60
 let z9 := fun i => bif Nat.blt i p0 then p5 (0 + i) else Ar.run .add .i64 10000 z8
 let z10 := fun i => bif Nat.blt i p0 then p6 (0 + i) else Ar.run .add .i64 (Ar.run .add .i64 10000 z8) (Ar.run .conv .i64 (a10 (0 + Int.toNat p2)) 0)
 let z11 := fun i => bif Nat.blt i p0 then p3 (0 + i) else 4
 let z12 := fun i => bif Nat.blt i p0 then p4 (0 + i) else Ar.run .rem .i64 0 p1
 let z13 := fun i => bif Nat.blt i p0 then p5 (0 + i) else 10040
 let z14 := fun i => bif Nat.blt i p0 then p6 (0 + i) else 10240
 .ask (Cm.run .eql p2 0)
   (.ask (Cm.run .lss p2 (↑a6 : Int))
   (.must z0
   (.must (decide (p2 < (↑a6 : Int)))
   (.must z1
   (.must z2
   (.must z3
   (.must z4
   (.leaf (.next (.n1 (p0 + 1) p1 z5 z6 z7 z9 z10) [3, 8]))))))))
   (.must z2
   (.must z3
   (.must z4
   (.leaf (.next (.n1 (p0 + 1) p1 z5 z11 z12 z13 z14) [3, 8]))))))
   (.ask (Cm.run .lss p2 (↑a6 : Int))
   (.ask (Cm.run .lss p2 5)
   (.ask (Cm.run .lss p2 (↑a6 : Int))
   (.must z0
   (.must (decide (p2 < (↑a6 : Int)))
   (.must z1
   (.must z2
   (.must z3
   (.must z4
   (.leaf (.next (.n1 (p0 + 1) p1 z5 z6 z7 z9 z10) [3, 8]))))))))
   (.must z2
   (.must z3
   (.must z4
   (.leaf (.next (.n1 (p0 + 1) p1 z5 z11 z12 z13 z14) [3, 8]))))))
   (.leaf (.done (.r1 p0 (fun i => p3 i) (fun i => p4 i) (fun i => p5 i) (fun i => p6 i)) [4])))
   (.leaf (.done (.r1 p0 (fun i => p3 i) (fun i => p4 i) (fun i => p5 i) (fun i => p6 i)) [4])))

noncomputable def dosA (a0 : Bool) (a1 a2 : Int) (a3 : Nat) (a4 a5 : Nat → Int) (a6 : Nat) (a7 a8 a9 a10 : Nat → Int) (a11 : Nat) (a12 : Nat → Int) : AF dosN dosR where
  code := dosCode
  base := 3
  nt := 66
  m := 400
  un := []
  W := []
  h0 := [(0, ⟨.arg a3 2 (fun i => [.int .u8 (.x (a4 i)), .int .u8 (.x (a5 i))]) (fun _ => ⟨rfl, rfl⟩), 2, true, none⟩), (1, ⟨.arg a6 4 (fun i => [.int .u8 (.x (a7 i)), .int .u8 (.x (a8 i)), .int .u8 (.x (a9 i)), .int .u8 (.x (a10 i))]) (fun _ => ⟨rfl, rfl⟩), 4, true, none⟩), (2, ⟨.arg a11 1 (fun i => [.int .u8 (.x (a12 i))]) (fun _ => ⟨rfl, rfl⟩), 1, true, none⟩)]
  args := [.agg [.bool (.x a0), .int .u8 (.x a1), .int .u8 (.x a2), .sla 0 2 0 a3, .sla 1 4 0 a6, .sla 2 1 0 a11]]
  res := (Try.f49).results.toList
  path := fun a => match a with
   | .n0 p0 => [1, 1, 0, 1, 0]
   | .n1 p0 p1 p2 p3 p4 p5 p6 => [1, 1, 0, 1, 0]
  pd := fun a => match a with
   | .n0 p0 => ⟨[(1, .ptr (some (3, 0))), (3, .slc (some (4, 0)) 0 0), (4, .int .i64 (.x p0)), (5, .int .i64 (.x 0))], [(3, ⟨.lit [.bool (.x a0), .int .u8 (.x a1), .int .u8 (.x a2), .sla 0 2 0 a3, .sla 1 4 0 a6, .sla 2 1 0 a11], 0, true, none⟩), (4, ⟨.lit [], 4, true, none⟩)], 5, []⟩
   | .n1 p0 p1 p2 p3 p4 p5 p6 => ⟨[(1, .ptr (some (3, 0))), (3, .slx 4 4 0 p0 p0), (4, .int .i64 (.x p1)), (5, .int .i64 (.x p2))], [(3, ⟨.lit [.bool (.x a0), .int .u8 (.x a1), .int .u8 (.x a2), .sla 0 2 0 a3, .sla 1 4 0 a6, .sla 2 1 0 a11], 0, true, none⟩), (4, ⟨.rows p0 4 (fun i => [.int .i64 (.x (p3 i)), .int .i64 (.x (p4 i)), .int .i64 (.x (p5 i)), .int .i64 (.x (p6 i))]) (fun _ => ⟨rfl, rfl⟩), 4, true, none⟩)], 5, []⟩
  D0 := dosD0 a0 a1 a2 a3 a4 a5 a6 a7 a8 a9 a10 a11 a12
  D := dosD a0 a1 a2 a3 a4 a5 a6 a7 a8 a9 a10 a11 a12
  rc := (fun v => match v with
 | .r0 => .slc (some (3, 0)) 0 0
 | .r1 p0 p1 p2 p3 p4 => .slx 3 4 0 p0 p0)
  rh := (fun v => match v with
 | .r0 => [(3, ⟨.lit [], 4, true, none⟩)]
 | .r1 p0 p1 p2 p3 p4 => [(3, ⟨.rows p0 4 (fun i => [.int .i64 (.x (p1 i)), .int .i64 (.x (p2 i)), .int .i64 (.x (p3 i)), .int .i64 (.x (p4 i))]) (fun _ => ⟨rfl, rfl⟩), 4, true, none⟩)])
  rn := (fun v => match v with
 | .r0 => 4
 | .r1 p0 p1 p2 p3 p4 => 4)
  rx := (fun v => match v with
 | .r0 => []
 | .r1 p0 p1 p2 p3 p4 => [])
  rgo := (fun _ => none)
theorem dosstart (a0 : Bool) (a1 a2 : Int) (a3 : Nat) (a4 a5 : Nat → Int) (a6 : Nat) (a7 a8 a9 a10 : Nat → Int) (a11 : Nat) (a12 : Nat → Int) : AF.edgeOk (dosA a0 a1 a2 a3 a4 a5 a6 a7 a8 a9 a10 a11 a12) (ctxOf Try.prog memo0) (dosD0 a0 a1 a2 a3 a4 a5 a6 a7 a8 a9 a10 a11 a12) (AF.run0 (dosA a0 a1 a2 a3 a4 a5 a6 a7 a8 a9 a10 a11 a12) (ctxOf Try.prog (memoS 48 dtoP dtoF dtoW dtoH 4 memo0))) := by unfold AF.edgeOk; kernel_rfl
theorem dosnode0 (a0 : Bool) (a1 a2 : Int) (a3 : Nat) (a4 a5 : Nat → Int) (a6 : Nat) (a7 a8 a9 a10 : Nat → Int) (a11 : Nat) (a12 : Nat → Int) (p0 : Int) : AF.edgeOk (dosA a0 a1 a2 a3 a4 a5 a6 a7 a8 a9 a10 a11 a12) (ctxOf Try.prog memo0) (dosD a0 a1 a2 a3 a4 a5 a6 a7 a8 a9 a10 a11 a12 (.n0 p0)) (AF.runN (dosA a0 a1 a2 a3 a4 a5 a6 a7 a8 a9 a10 a11 a12) (ctxOf Try.prog (memoS 48 dtoP dtoF dtoW dtoH 4 memo0)) (.n0 p0)) := by unfold AF.edgeOk; kernel_rfl
theorem dosnode1 (a0 : Bool) (a1 a2 : Int) (a3 : Nat) (a4 a5 : Nat → Int) (a6 : Nat) (a7 a8 a9 a10 : Nat → Int) (a11 : Nat) (a12 : Nat → Int) (p0 : Nat) (p1 p2 : Int) (p3 p4 p5 p6 : Nat → Int) : AF.edgeOk (dosA a0 a1 a2 a3 a4 a5 a6 a7 a8 a9 a10 a11 a12) (ctxOf Try.prog memo0) (dosD a0 a1 a2 a3 a4 a5 a6 a7 a8 a9 a10 a11 a12 (.n1 p0 p1 p2 p3 p4 p5 p6)) (AF.runN (dosA a0 a1 a2 a3 a4 a5 a6 a7 a8 a9 a10 a11 a12) (ctxOf Try.prog (memoS 48 dtoP dtoF dtoW dtoH 4 memo0)) (.n1 p0 p1 p2 p3 p4 p5 p6)) := by unfold AF.edgeOk; kernel_rfl
theorem dosok (a0 : Bool) (a1 a2 : Int) (a3 : Nat) (a4 a5 : Nat → Int) (a6 : Nat) (a7 a8 a9 a10 : Nat → Int) (a11 : Nat) (a12 : Nat → Int) : (dosA a0 a1 a2 a3 a4 a5 a6 a7 a8 a9 a10 a11 a12).Ok Try.prog (ctxOf Try.prog (memoS 48 dtoP dtoF dtoW dtoH 4 memo0)) where
  regs := by kernel_rfl
  h0 := by kernel_rfl
  start := dosstart a0 a1 a2 a3 a4 a5 a6 a7 a8 a9 a10 a11 a12
  node := fun a _ => match a with
   | .n0 p0 => dosnode0 a0 a1 a2 a3 a4 a5 a6 a7 a8 a9 a10 a11 a12 p0
   | .n1 p0 p1 p2 p3 p4 p5 p6 => dosnode1 a0 a1 a2 a3 a4 a5 a6 a7 a8 a9 a10 a11 a12 p0 p1 p2 p3 p4 p5 p6
  pd := fun a => match a with
   | .n0 p0 => ⟨(fa_cons rfl (fa_cons rfl (fa_cons rfl (fa_cons rfl fa_nil)))), (fa_cons ⟨.inl (Nat.le_of_ble_eq_true rfl), rfl, rfl⟩ (fa_cons ⟨.inl (Nat.le_of_ble_eq_true rfl), rfl, rfl⟩ fa_nil)), fa_nil, rfl⟩
   | .n1 p0 p1 p2 p3 p4 p5 p6 => ⟨(fa_cons rfl (fa_cons rfl (fa_cons rfl (fa_cons rfl fa_nil)))), (fa_cons ⟨.inl (Nat.le_of_ble_eq_true rfl), rfl, rfl⟩ (fa_cons ⟨.inl (Nat.le_of_ble_eq_true rfl), (fun _ => rfl), rfl⟩ fa_nil)), fa_nil, rfl⟩
  le := fun a => match a with
   | .n0 p0 => Nat.le_of_ble_eq_true rfl
   | .n1 p0 p1 p2 p3 p4 p5 p6 => Nat.le_of_ble_eq_true rfl
  rd := fun v => match v with
   | .r0 => ⟨⟨fa_nil, (fa_cons ⟨.inl (Nat.le_of_ble_eq_true rfl), rfl, rfl⟩ fa_nil), fa_nil, rfl⟩, rfl⟩
   | .r1 p0 p1 p2 p3 p4 => ⟨⟨fa_nil, (fa_cons ⟨.inl (Nat.le_of_ble_eq_true rfl), (fun _ => rfl), rfl⟩ fa_nil), fa_nil, rfl⟩, rfl⟩
  wb := rfl
theorem doshR {ρ : Env} (a0 : Bool) (a1 a2 : Int) (a3 : Nat) (a4 a5 : Nat → Int) (a6 : Nat) (a7 a8 a9 a10 : Nat → Int) (a11 : Nat) (a12 : Nat → Int) (hM : MemoOk Try.prog (ctxOf Try.prog (memoS 48 dtoP dtoF dtoW dtoH 4 memo0)) ρ) : ∀ X a q n D, FxOk ρ X → X.base = (dosA a0 a1 a2 a3 a4 a5 a6 a7 a8 a9 a10 a11 a12).base → X.nt = (dosA a0 a1 a2 a3 a4 a5 a6 a7 a8 a9 a10 a11 a12).nt → X.W = (dosA a0 a1 a2 a3 a4 a5 a6 a7 a8 a9 a10 a11 a12).W → (dosA a0 a1 a2 a3 a4 a5 a6 a7 a8 a9 a10 a11 a12).rgo a = some q → q n = some D → (dosA a0 a1 a2 a3 a4 a5 a6 a7 a8 a9 a10 a11 a12).RangeOk Try.prog ρ X a D := AF.noRange rfl
theorem dosctr {ρ : Env} (a0 : Bool) (a1 a2 : Int) (a3 : Nat) (a4 a5 : Nat → Int) (a6 : Nat) (a7 a8 a9 a10 : Nat → Int) (a11 : Nat) (a12 : Nat → Int) {n : Nat} {v : dosR} (hM : MemoOk Try.prog (ctxOf Try.prog (memoS 48 dtoP dtoF dtoW dtoH 4 memo0)) ρ) (hv : (dosA a0 a1 a2 a3 a4 a5 a6 a7 a8 a9 a10 a11 a12).run n = some v) :
    Ctr Try.prog ρ 49 (dosA a0 a1 a2 a3 a4 a5 a6 a7 a8 a9 a10 a11 a12).args (dosA a0 a1 a2 a3 a4 a5 a6 a7 a8 a9 a10 a11 a12).H0 (dosA a0 a1 a2 a3 a4 a5 a6 a7 a8 a9 a10 a11 a12).base (dosA a0 a1 a2 a3 a4 a5 a6 a7 a8 a9 a10 a11 a12).W ((dosA a0 a1 a2 a3 a4 a5 a6 a7 a8 a9 a10 a11 a12).rc v) (putH (dosA a0 a1 a2 a3 a4 a5 a6 a7 a8 a9 a10 a11 a12).H0 ((dosA a0 a1 a2 a3 a4 a5 a6 a7 a8 a9 a10 a11 a12).rh v ++ (dosA a0 a1 a2 a3 a4 a5 a6 a7 a8 a9 a10 a11 a12).rx v)) ((dosA a0 a1 a2 a3 a4 a5 a6 a7 a8 a9 a10 a11 a12).rn v) :=
  AF.ctr try_ok hM (dosok a0 a1 a2 a3 a4 a5 a6 a7 a8 a9 a10 a11 a12) (fn := Try.f49) Try.func49 rfl rfl (Nat.le_of_ble_eq_true rfl) rfl (doshR a0 a1 a2 a3 a4 a5 a6 a7 a8 a9 a10 a11 a12 hM) hv
theorem dosmem {ρ : Env} : MemoOk Try.prog (ctxOf Try.prog (memoS 48 dtoP dtoF dtoW dtoH 4 memo0)) ρ := (memoS_ok (dtoknown dtomem) memo0_ok)
abbrev dosP : List AQ := [.agg [.bool, .int .u8, .int .u8, .rows [some .u8, some .u8], .rows [some .u8, some .u8, some .u8, some .u8], .rows [some .u8]]]
noncomputable def dosF (v : AW) : AF dosN dosR := dosA (v.b.getD 0 false) (v.i.getD 0 0) (v.i.getD 1 0) (v.t.getD 0 .none).n ((v.t.getD 0 .none).c 0) ((v.t.getD 0 .none).c 1) (v.t.getD 1 .none).n ((v.t.getD 1 .none).c 0) ((v.t.getD 1 .none).c 1) ((v.t.getD 1 .none).c 2) ((v.t.getD 1 .none).c 3) (v.t.getD 2 .none).n ((v.t.getD 2 .none).c 0)
def dosw0 : dosR → Nat
  | .r0 => 0
  | .r1 p0 p1 p2 p3 p4 => p0
def dosw1 : dosR → (Nat → Int)
  | .r0 => fun _ => 0
  | .r1 p0 p1 p2 p3 p4 => p1
def dosw2 : dosR → (Nat → Int)
  | .r0 => fun _ => 0
  | .r1 p0 p1 p2 p3 p4 => p2
def dosw3 : dosR → (Nat → Int)
  | .r0 => fun _ => 0
  | .r1 p0 p1 p2 p3 p4 => p3
def dosw4 : dosR → (Nat → Int)
  | .r0 => fun _ => 0
  | .r1 p0 p1 p2 p3 p4 => p4
noncomputable def dosW : dosR → CV := fun v => .sla 3 4 0 ((dosw0 v))
noncomputable def dosH : dosR → List (Nat × Blk) := fun v => [(3, ⟨.rows ((dosw0 v)) 4 (fun i => [.int .i64 (.x ((dosw1 v) i)), .int .i64 (.x ((dosw2 v) i)), .int .i64 (.x ((dosw3 v) i)), .int .i64 (.x ((dosw4 v) i))]) (fun _ => ⟨rfl, rfl⟩), 4, true, none⟩)]
instance : Inhabited dosR := ⟨.r0⟩
theorem dosknown {ρ : Env} (hM : MemoOk Try.prog (ctxOf Try.prog (memoS 48 dtoP dtoF dtoW dtoH 4 memo0)) ρ) : KnownS Try.prog ρ 49 dosP dosF dosW dosH 4 where
  fn := ⟨Try.f49, Try.func49, rfl⟩
  le := Nat.le_of_ble_eq_true rfl
  full := fun r => rfl
  rg := fun r => rfl
  hg := fun r => (fa_cons ⟨fun _ => rfl, rfl⟩ fa_nil)
  ctr := fun v n r h => match r, h with
    | .r0, h => Ctr.forget (dosctr (v.b.getD 0 false) (v.i.getD 0 0) (v.i.getD 1 0) (v.t.getD 0 .none).n ((v.t.getD 0 .none).c 0) ((v.t.getD 0 .none).c 1) (v.t.getD 1 .none).n ((v.t.getD 1 .none).c 0) ((v.t.getD 1 .none).c 1) ((v.t.getD 1 .none).c 2) ((v.t.getD 1 .none).c 3) (v.t.getD 2 .none).n ((v.t.getD 2 .none).c 0) hM h) (Nat.le_of_ble_eq_true rfl) (Nat.le_of_ble_eq_true rfl) (fun σ => (fun _ h => h.empty_sla)) (fun b h1 h2 k hk => by
      obtain rfl : b = 3 := Nat.le_antisymm (Nat.le_of_lt_succ h2) h1
      have hk := Option.some.inj hk
      subst hk
      exact ⟨_, rfl, rfl, rfl, rfl, rfl, rfl⟩)
    | .r1 p0 p1 p2 p3 p4, h => Ctr.weaken (dosctr (v.b.getD 0 false) (v.i.getD 0 0) (v.i.getD 1 0) (v.t.getD 0 .none).n ((v.t.getD 0 .none).c 0) ((v.t.getD 0 .none).c 1) (v.t.getD 1 .none).n ((v.t.getD 1 .none).c 0) ((v.t.getD 1 .none).c 1) ((v.t.getD 1 .none).c 2) ((v.t.getD 1 .none).c 3) (v.t.getD 2 .none).n ((v.t.getD 2 .none).c 0) hM h) (Nat.le_of_ble_eq_true rfl) (Nat.le_of_ble_eq_true rfl) (fun σ => (fun _ h => h.as_sla)) (fun b h1 h2 => rfl)
end Go.Proofs.Ythagjhadjpangaa.Cx

/- Package die's plain laws: orders, the order of a piece, what is picked, what is cut. -/
namespace Go.Proofs.Ythagjhadjpangaa.Cx
set_option linter.unusedVariables false
set_option linter.unusedSimpArgs false
set_option maxRecDepth 100000
set_option maxHeartbeats 4000000
open Go Go.RowKit
section
variable {a0 : Nat} {a1 a2 a3 a4 : Nat → Int} {a5 : Int}
theorem dal_val (hm : a0 ≤ 40) (h : ∀ i : Nat, i < a0 → 1 ≤ a1 i ∧ a1 i ≤ 10000) : AF.fin (dalA a0 a1 a2 a3 a4) = true ∧ AF.val (dalA a0 a1 a2 a3 a4) = PS a1 a0 := by
  refine AF.val_sat (E := fun v => v = PS a1 a0) (Inv := fun b => match b with | .n0 p0 p1 => 0 ≤ p1 ∧ p1 ≤ a0 ∧ p0 = PS a1 p1.toNat) (fun b => match b with | .n0 p0 p1 => (a0 - p1).toNat) (fun _ => rfl) (fun a hI => ?_) ?_
  · cases a with
    | n0 p0 p1 =>
      obtain ⟨g0, g1, g2⟩ := hI
      show DD.sat _ _ (dalD a0 a1 a2 a3 a4 (.n0 p0 p1))
      unfold dalD
      have e1 : p1 < a0 → Ar.run .add .i64 p1 1 = p1 + 1 := fun h => arAdd (by omega)
      simp only [DD.sat, Nat.zero_add, cmLss, cmLssF, cmLeq, cmLeqF, cmGtr, cmGtrF, cmGeq, cmGeqF, cmEql, cmEqlF, cmNeq, cmNeqF, decide_eq_true_eq, Bool.not_eq_true', Bool.not_eq_false']
      refine ⟨fun hp => ⟨g0, hp, by omega, ?_⟩, fun hp => ?_⟩
      · have r1 := PS_rng h p1.toNat (by omega)
        have r2 := h p1.toNat (by omega)
        rw [e1 hp, arAdd (a := p0) (by omega)]
        refine ⟨⟨by omega, by omega, ?_⟩, by omega⟩
        rw [show (p1 + 1).toNat = p1.toNat + 1 by omega, PS, g2]
      · rw [g2, show p1.toNat = a0 by omega]
  · show 0 ≤ (0 : Int) ∧ (0 : Int) ≤ a0 ∧ (0 : Int) = PS a1 (0 : Int).toNat
    exact ⟨by omega, by omega, rfl⟩
end
section
variable {a0 a1 a2 : Int} {a3 : Bool} {a4 : Int} {a5 : Bool} {a6 a7 : Int} {a8 : Nat} {a9 a10 : Nat → Int} {a11 : Nat} {a12 a13 a14 a15 : Nat → Int} {a16 : Nat} {a17 : Nat → Int}
end
section
variable {a0 : Bool} {a1 a2 : Int} {a3 : Nat} {a4 a5 : Nat → Int} {a6 : Nat} {a7 a8 a9 a10 : Nat → Int} {a11 : Nat} {a12 : Nat → Int} {a13 : Bool} {a14 a15 a16 a17 : Int} {a18 : Nat} {a19 a20 : Nat → Int} {a21 : Nat} {a22 a23 a24 a25 : Nat → Int} {a26 a27 a28 a29 : Int}
/-- The orders that are made. -/
def OrRow (n : Nat) (pc st zl zh : Int) : Prop := (1 ≤ pc ∧ pc ≤ 30) ∧ (0 ≤ st ∧ st < n) ∧ (10000 ≤ zl ∧ zl ≤ 10059) ∧ zl ≤ zh ∧ zh ≤ zl + 255
def OrOk (n : Nat) : dosR → Prop
  | .r0 => False
  | .r1 p0 p1 p2 p3 p4 => (1 ≤ p0 ∧ p0 ≤ 5) ∧ ∀ i : Nat, i < p0 → OrRow n (p1 i) (p2 i) (p3 i) (p4 i)
theorem dos_val (h1 : 0 ≤ a1 ∧ a1 ≤ 255) (h2 : 0 ≤ a2 ∧ a2 ≤ 255) (h4 : ∀ i, 0 ≤ a4 i ∧ a4 i ≤ 255) (h5 : ∀ i, 0 ≤ a5 i ∧ a5 i ≤ 255) (h7 : ∀ i, 0 ≤ a7 i ∧ a7 i ≤ 255) (h8 : ∀ i, 0 ≤ a8 i ∧ a8 i ≤ 255) (h9 : ∀ i, 0 ≤ a9 i ∧ a9 i ≤ 255) (h10 : ∀ i, 0 ≤ a10 i ∧ a10 i ≤ 255) :
    AF.fin (dosA a0 a1 a2 a3 a4 a5 a6 a7 a8 a9 a10 a11 a12) = true ∧ ∃ b p1 p2 p3 p4 n c d, AF.val (dtoA a0 a1 a2 a3 a4 a5 a6 a7 a8 a9 a10 a11 a12) = .r1 b p1 p2 p3 p4 n c d ∧ TlOk (.r1 b p1 p2 p3 p4 n c d) ∧ OrOk n (AF.val (dosA a0 a1 a2 a3 a4 a5 a6 a7 a8 a9 a10 a11 a12)) := by
  obtain ⟨tf, tv⟩ := dto_val (a0 := a0) (a1 := a1) (a2 := a2) (a3 := a3) (a4 := a4) (a5 := a5) (a6 := a6) (a7 := a7) (a8 := a8) (a9 := a9) (a10 := a10) (a11 := a11) (a12 := a12) h1 h2 h4 h5
  cases hT : AF.val (dtoA a0 a1 a2 a3 a4 a5 a6 a7 a8 a9 a10 a11 a12) with
  | r0 _ _ _ _ _ => rw [hT] at tv; exact tv.elim
  | r1 b p1 p2 p3 p4 n c d =>
    rw [hT] at tv
    have hTE : AF.val (dtoA a0 a1 a2 a3 (fun i => a4 i) (fun i => a5 i) a6 (fun i => a7 i) (fun i => a8 i) (fun i => a9 i) (fun i => a10 i) a11 (fun i => a12 i)) = .r1 b p1 p2 p3 p4 n c d := hT
    have hn := tv.2.2.2.2.1
    have row : ∀ i, OrRow n (Ar.run .add .i64 1 (Ar.run .rem .i64 (Ar.run .conv .i64 (a7 i) 0) 30)) (Ar.run .rem .i64 (Ar.run .conv .i64 (a8 i) 0) n) (Ar.run .add .i64 10000 (Ar.run .rem .i64 (Ar.run .conv .i64 (a9 i) 0) 60)) (Ar.run .add .i64 (Ar.run .add .i64 10000 (Ar.run .rem .i64 (Ar.run .conv .i64 (a9 i) 0) 60)) (Ar.run .conv .i64 (a10 i) 0)) := fun i => by
      rw [conv_byte (h7 i), conv_byte (h8 i), conv_byte (h9 i), conv_byte (h10 i)]
      have r1 := rem_pos (h7 i).1 (show (0 : Int) < 30 by omega)
      have r2 := rem_pos (h8 i).1 (show (0 : Int) < n by omega)
      have r3 := rem_pos (h9 i).1 (show (0 : Int) < 60 by omega)
      have b4 := h10 i
      rw [arAdd (a := 1) (by omega), arAdd (a := 10000) (by omega), arAdd (by omega)]
      unfold OrRow
      omega
    have lit : OrRow n 4 (Ar.run .rem .i64 0 n) 10040 10240 := by
      have r2 := rem_pos (x := 0) (k := n) (by omega) (by omega)
      unfold OrRow
      omega
    have ext : ∀ (p : Nat) (c1 c2 c3 c4 : Nat → Int) (x y z u : Int), (∀ i : Nat, i < p → OrRow n (c1 i) (c2 i) (c3 i) (c4 i)) → OrRow n x y z u → ∀ i : Nat, i < p + 1 → OrRow n (bif Nat.blt i p then c1 i else x) (bif Nat.blt i p then c2 i else y) (bif Nat.blt i p then c3 i else z) (bif Nat.blt i p then c4 i else u) := fun p c1 c2 c3 c4 x y z u hc hx i hi => by
      cases hb : Nat.blt i p with
      | true => exact hc i (by rw [Nat.blt_eq] at hb; exact hb)
      | false => exact hx
    have main : AF.fin (dosA a0 a1 a2 a3 a4 a5 a6 a7 a8 a9 a10 a11 a12) = true ∧ OrOk n (AF.val (dosA a0 a1 a2 a3 a4 a5 a6 a7 a8 a9 a10 a11 a12)) := by
      refine AF.val_sat (E := OrOk n)
        (Inv := fun b => match b with | .n0 p0 => p0 = n | .n1 p0 p1 p2 p3 p4 p5 p6 => p1 = n ∧ p2 = p0 ∧ (1 ≤ p0 ∧ p0 ≤ 5) ∧ ∀ i : Nat, i < p0 → OrRow n (p3 i) (p4 i) (p5 i) (p6 i))
        (fun b => match b with | .n0 p0 => 10 | .n1 p0 p1 p2 p3 p4 p5 p6 => 5 - p0) (fun _ => rfl) (fun a hI => ?_) ?_
      · cases a with
        | n0 q0 =>
          obtain rfl : q0 = n := hI
          show DD.sat _ _ (dosD a0 a1 a2 a3 a4 a5 a6 a7 a8 a9 a10 a11 a12 (.n0 n))
          unfold dosD
          simp only [DD.sat, Nat.zero_add, cmLss, cmLssF, cmLeq, cmLeqF, cmGtr, cmGtrF, cmGeq, cmGeqF, cmEql, cmEqlF, cmNeq, cmNeqF, decide_eq_true_eq, Bool.not_eq_true', Bool.not_eq_false', Int.toNat_zero]
          refine ⟨fun _ => ⟨fun hl => ⟨trivial, hl, by omega, by omega, ⟨trivial, rfl, ⟨by decide, by decide⟩, fun i hi => row 0⟩, by decide⟩, fun hl => ⟨by omega, ⟨trivial, rfl, ⟨by decide, by decide⟩, fun i hi => lit⟩, by decide⟩⟩, fun hx => (by cases hx)⟩
        | n1 q0 q1 q2 q3 q4 q5 q6 =>
          obtain ⟨rfl, rfl, g0, g1⟩ := hI
          show DD.sat _ _ (dosD a0 a1 a2 a3 a4 a5 a6 a7 a8 a9 a10 a11 a12 (.n1 q0 n q0 q3 q4 q5 q6))
          unfold dosD
          have ea : Ar.run .add .i64 (q0 : Int) 1 = ((q0 + 1 : Nat) : Int) := by rw [arAdd (by omega)]; omega
          simp only [DD.sat, Nat.zero_add, cmLss, cmLssF, cmLeq, cmLeqF, cmGtr, cmGtrF, cmGeq, cmGeqF, cmEql, cmEqlF, cmNeq, cmNeqF, decide_eq_true_eq, Bool.not_eq_true', Bool.not_eq_false', ea]
          refine ⟨fun hx => by omega, fun _ => ⟨fun hl => ⟨fun h5' => ⟨fun _ => ⟨by omega, hl, by omega, by omega, Nat.le_refl _, by omega, ⟨trivial, trivial, by omega, ?_⟩, by omega⟩, fun hx => by omega⟩, fun h5' => ⟨by omega, g1⟩⟩, fun hl => ⟨g0, g1⟩⟩⟩
          exact ext q0 q3 q4 q5 q6 _ _ _ _ g1 (row (q0 : Int).toNat)
      · show DD.sat _ _ (dosD0 a0 a1 a2 a3 a4 a5 a6 a7 a8 a9 a10 a11 a12)
        unfold dosD0
        simp only [DD.sat, Nat.zero_add, cmLss, cmLssF, cmLeq, cmLeqF, cmGtr, cmGtrF, cmGeq, cmGeqF, cmEql, cmEqlF, cmNeq, cmNeqF, decide_eq_true_eq, Bool.not_eq_true', Bool.not_eq_false', hTE, dtow5]
        exact ⟨Nat.le_refl _, shape_ok fun i _ => rfl, Nat.le_refl _, shape_ok fun i _ => rfl, Nat.le_refl _, shape_ok fun i _ => rfl, tf, trivial⟩
    exact ⟨main.1, b, p1, p2, p3, p4, n, c, d, rfl, tv, main.2⟩
end
/-- A tool and orders that are made are valid. -/
theorem made_ok {b : Bool} {p1 p2 p3 p4 : Int} {n : Nat} {c d : Nat → Int} {m : Nat} {pc st zl zh : Nat → Int} (ht : TlOk (.r1 b p1 p2 p3 p4 n c d)) (ho : OrOk n (.r1 m pc st zl zh)) :
    CkS n m (ToolOk n c d p1 p2 p3 p4) pc st zl zh 0 ∧ JobOk p1 p2 p3 p4 n c d m pc st zl zh ∧ 0 < PS pc m ∧ PS pc m ≤ 150 := by
  obtain ⟨t1, t2, t3, t4, t5, t6⟩ := ht
  obtain ⟨o1, o2⟩ := ho
  have tool : ToolOk n c d p1 p2 p3 p4 := ⟨by omega, fun i hi => by
    have := t6 i (by omega)
    unfold RowOk at this
    unfold VOk
    omega, by unfold VOk; omega, by unfold VOk; omega⟩
  have ord : ∀ i : Nat, i < m → OrdOk n (pc i) (st i) (zl i) (zh i) := fun i hi => by
    have := o2 i hi
    unfold OrRow at this
    exact ⟨⟨by omega, by omega, by unfold VOk; omega⟩, by omega, by omega⟩
  have r := PS_rng (pc := pc) (m := m) (fun i hi => ⟨(ord i hi).1.1, (ord i hi).1.2.1⟩) m (Nat.le_refl _)
  have r2 : ∀ k, k ≤ m → PS pc k ≤ 30 * k := by
    intro k
    induction k with
    | zero => intro _; simp [PS]
    | succ k ih =>
      intro hk
      have a := ih (by omega)
      have b := o2 k (by omega)
      unfold OrRow at b
      rw [PS]
      omega
  have r3 := r2 m (Nat.le_refl _)
  exact ⟨.inr ⟨by omega, 0, .inr ⟨by omega, .inl ⟨tool, rfl⟩⟩, .inr ⟨rfl, .inr ⟨ord, .inr ⟨by omega, rfl⟩⟩⟩⟩, ⟨tool, by omega, ord⟩, by omega, by omega⟩
end Go.Proofs.Ythagjhadjpangaa.Cx

/- slices.IndexFunc[[]int,int] as an automaton. Made by tools/cxauto.py. -/
namespace Go.Proofs.Ythagjhadjpangaa.Cx
set_option linter.unusedVariables false
set_option linter.unusedSimpArgs false
set_option maxRecDepth 100000
open Go Go.Proofs Go.RowKit
abbrev xixR := Int
instance : Inhabited xixR := ⟨0⟩
end Go.Proofs.Ythagjhadjpangaa.Cx

/- slices.ContainsFunc[[]int,int] as an automaton. Made by tools/cxauto.py. -/
namespace Go.Proofs.Ythagjhadjpangaa.Cx
set_option linter.unusedVariables false
set_option linter.unusedSimpArgs false
set_option maxRecDepth 100000
open Go Go.Proofs Go.RowKit
abbrev xcfR := Bool
instance : Inhabited xcfR := ⟨false⟩
end Go.Proofs.Ythagjhadjpangaa.Cx

/- acme/exact.AllFrom as an automaton. Made by tools/cxauto.py. -/
namespace Go.Proofs.Ythagjhadjpangaa.Cx
set_option linter.unusedVariables false
set_option linter.unusedSimpArgs false
set_option maxRecDepth 100000
open Go Go.Proofs Go.RowKit
abbrev xalR := Bool
instance : Inhabited xalR := ⟨false⟩
end Go.Proofs.Ythagjhadjpangaa.Cx

/- (acme/die.shop).inOrder as an automaton. Made by tools/cxauto.py. -/
namespace Go.Proofs.Ythagjhadjpangaa.Cx
set_option linter.unusedVariables false
set_option linter.unusedSimpArgs false
set_option maxRecDepth 100000
open Go Go.Proofs Go.RowKit
abbrev dioR := Bool
instance : Inhabited dioR := ⟨false⟩
end Go.Proofs.Ythagjhadjpangaa.Cx

/- (acme/die.shop).validPlan as an automaton. Made by tools/cxauto.py. -/
namespace Go.Proofs.Ythagjhadjpangaa.Cx
set_option linter.unusedVariables false
set_option linter.unusedSimpArgs false
set_option maxRecDepth 100000
open Go Go.Proofs Go.RowKit
abbrev dvpR := Bool
instance : Inhabited dvpR := ⟨false⟩
end Go.Proofs.Ythagjhadjpangaa.Cx

/- acme/acmeref07.Settings as an automaton. Made by tools/cxauto.py. -/
namespace Go.Proofs.Ythagjhadjpangaa.Cx
set_option linter.unusedVariables false
set_option linter.unusedSimpArgs false
set_option maxRecDepth 100000
open Go Go.Proofs Go.RowKit
abbrev rdsR := Int
instance : Inhabited rdsR := ⟨0⟩
end Go.Proofs.Ythagjhadjpangaa.Cx

/- acme/acmeref07.Pieces as an automaton. Made by tools/cxauto.py. -/
namespace Go.Proofs.Ythagjhadjpangaa.Cx
set_option linter.unusedVariables false
set_option linter.unusedSimpArgs false
set_option maxRecDepth 100000
open Go Go.Proofs Go.RowKit
abbrev rdcR := Bool
instance : Inhabited rdcR := ⟨false⟩
end Go.Proofs.Ythagjhadjpangaa.Cx

/- acme/die.Proves as an automaton. Made by tools/cxauto.py. -/
namespace Go.Proofs.Ythagjhadjpangaa.Cx
set_option linter.unusedVariables false
set_option linter.unusedSimpArgs false
set_option maxRecDepth 100000
open Go Go.Proofs Go.RowKit
abbrev dprR := Int × Int
instance : Inhabited dprR := ⟨(0, 0)⟩
end Go.Proofs.Ythagjhadjpangaa.Cx

/- acme/acmeref07.Proves as an automaton. Made by tools/cxauto.py. -/
namespace Go.Proofs.Ythagjhadjpangaa.Cx
set_option linter.unusedVariables false
set_option linter.unusedSimpArgs false
set_option maxRecDepth 100000
open Go Go.Proofs Go.RowKit
abbrev rdqR := Int
instance : Inhabited rdqR := ⟨0⟩
end Go.Proofs.Ythagjhadjpangaa.Cx

/- Package die: lists of numbers and settings: what is valid; Proves. -/
namespace Go.Proofs.Ythagjhadjpangaa.Cx
set_option linter.unusedVariables false
set_option linter.unusedSimpArgs false
set_option maxRecDepth 100000
set_option maxHeartbeats 4000000
open Go Go.RowKit
section
variable {a0 a1 : Int} {a2 : Nat} {a3 : Nat → Int}
end
section
variable {a0 : Bool} {a1 a2 a3 a4 : Int} {a5 : Nat} {a6 a7 : Nat → Int} {a8 : Nat} {a9 a10 a11 a12 : Nat → Int} {a13 : Int} {a14 : Nat} {a15 a16 : Nat → Int}
end
section
variable {a0 : Nat} {a1 a2 a3 a4 : Nat → Int} {a5 : Nat} {a6 a7 : Nat → Int}
end
section
variable {a0 : Bool} {a1 a2 a3 a4 : Int} {a5 : Nat} {a6 a7 : Nat → Int} {a8 : Nat} {a9 a10 a11 a12 : Nat → Int} {a13 : Nat} {a14 : Nat → Int}
end
end Go.Proofs.Ythagjhadjpangaa.Cx

/- acme/die.Judge as an automaton. Made by tools/cxauto.py. -/
namespace Go.Proofs.Ythagjhadjpangaa.Cx
set_option linter.unusedVariables false
set_option linter.unusedSimpArgs false
set_option maxRecDepth 100000
open Go Go.Proofs Go.RowKit
abbrev djuR := Int × Int
instance : Inhabited djuR := ⟨(0, 0)⟩
end Go.Proofs.Ythagjhadjpangaa.Cx
