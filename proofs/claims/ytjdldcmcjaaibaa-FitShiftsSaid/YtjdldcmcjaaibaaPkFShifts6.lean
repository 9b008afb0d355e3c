/- acme/fit.Deep as an automaton. Made by tools/cxauto.py. -/
import Derived.Test.YtjdldcmcjaaibaaPkFShifts5

namespace Go.Proofs.Ytjdldcmcjaaibaa.Cx
set_option linter.unusedVariables false
set_option linter.unusedSimpArgs false
set_option maxRecDepth 100000
open Go Go.Proofs Go.RowKit
noncomputable abbrev adeCode : Code := funcCode Try.f24
noncomputable abbrev ades0Code : Code := funcCode Try.f89
inductive ades0N where
  | n0 (q0 q1 : Int)
inductive ades0R where
  | r0 (q0 : Int)
  | r1 (q0 : Int)
noncomputable def ades0D0 (a0 : Nat) (a1 a2 : Nat → Int) (a3 a4 : Int) (a5 : Nat) (a6 a7 : Nat → Int) (a8 a9 a10 a11 p0 p1 : Int) (p2 : Nat) (p3 p4 : Int) (p5 : Nat) (p6 p7 : Int) (p8 p9 p10 p11 : Nat → Int) : DD (Lf ades0N ades0R) :=
 .leaf (.next (.n0 0 0) [])

noncomputable def ades0D (a0 : Nat) (a1 a2 : Nat → Int) (a3 a4 : Int) (a5 : Nat) (a6 a7 : Nat → Int) (a8 a9 a10 a11 p0 p1 : Int) (p2 : Nat) (p3 p4 : Int) (p5 : Nat) (p6 p7 : Int) (p8 p9 p10 p11 : Nat → Int) : ades0N → DD (Lf ades0N ades0R)
 | .n0 q0 q1 =>
 let z0 := fun i => [CV.int IntKind.i64 (IE.x (p8 (0 + i))), CV.int IntKind.i64 (IE.x (p9 (0 + i)))]
 let z1 := fun i => [CV.int IntKind.i64 (IE.x (p10 (0 + i))), CV.int IntKind.i64 (IE.x (p11 (0 + i)))]
 let z2 := fun i => p8 (0 + i)
 let z3 := fun i => p9 (0 + i)
 let z4 := fun i => p10 (0 + i)
 let z5 := fun i => p11 (0 + i)
 let z6 := Ar.run .add .i64 q0 1
 .ask (Cm.run .lss q0 (↑p5 : Int))
   (.must (decide (0 + p2 ≤ p2))
   (.must (ShapeOk [some IntKind.i64, some IntKind.i64] (tabOf p2 z0) z0)
   (.must (decide (0 + p5 ≤ p5))
   (.must (ShapeOk [some IntKind.i64, some IntKind.i64] (tabOf p5 z1) z1)
   (.must (AF.fin (ashA p0 p1 p2 z2 z3 p3 p4 p5 z4 z5 p6 p7 (Ar.run .sub .i64 ((↑p2 : Int)) (Ar.run .mn .i64 z6 (↑p2 : Int))) (Ar.run .sub .i64 z6 (Ar.run .mn .i64 z6 (↑p2 : Int))) (Ar.run .mn .i64 z6 (↑p2 : Int))))
   (.ask (Cm.run .lss (Ar.run .sub .i64 (Prod.snd (AF.val (ashA p0 p1 p2 z2 z3 p3 p4 p5 z4 z5 p6 p7 (Ar.run .sub .i64 ((↑p2 : Int)) (Ar.run .mn .i64 z6 (↑p2 : Int))) (Ar.run .sub .i64 z6 (Ar.run .mn .i64 z6 (↑p2 : Int))) (Ar.run .mn .i64 z6 (↑p2 : Int))))) (Prod.fst (AF.val (ashA p0 p1 p2 z2 z3 p3 p4 p5 z4 z5 p6 p7 (Ar.run .sub .i64 ((↑p2 : Int)) (Ar.run .mn .i64 z6 (↑p2 : Int))) (Ar.run .sub .i64 z6 (Ar.run .mn .i64 z6 (↑p2 : Int))) (Ar.run .mn .i64 z6 (↑p2 : Int)))))) 0)
   (.leaf (.done (.r1 q1) []))
   (.leaf (.next (.n0 z6 (Ar.run .add .i64 q1 1)) []))))))))
   (.leaf (.done (.r0 q1) []))

noncomputable def ades0A (a0 : Nat) (a1 a2 : Nat → Int) (a3 a4 : Int) (a5 : Nat) (a6 a7 : Nat → Int) (a8 a9 a10 a11 p0 p1 : Int) (p2 : Nat) (p3 p4 : Int) (p5 : Nat) (p6 p7 : Int) (p8 p9 p10 p11 : Nat → Int) : AF ades0N ades0R where
  code := ades0Code
  base := 8
  nt := 34
  m := 400
  un := []
  W := [3, 7]
  h0 := ((7, recB (mkT [(8, .ptr (some (2, 0))), (10, .ptr (some (3, 0))), (23, .fn (.func 89) [] [.ptr (some (4, 0))])]) 32 (rgP (codeAt adeCode [1, 1, 1, 1, 0, 1, 0])) (rgA (codeAt adeCode [1, 1, 1, 1, 0, 1, 0])) (rgB (codeAt adeCode [1, 1, 1, 1, 0, 1, 0]))) :: (([(2, ⟨.lit [.int .i64 (.x p0), .int .i64 (.x p1), .sla 5 2 0 p2, .int .i64 (.x p3), .int .i64 (.x p4), .sla 6 2 0 p5, .int .i64 (.x p6), .int .i64 (.x p7)], 0, true, none⟩), (3, ⟨.lit [.int .i64 (.x 0)], 0, true, none⟩), (4, ⟨.lit [.int .i64 (.x p0), .int .i64 (.x p1), .sla 5 2 0 p2, .int .i64 (.x p3), .int .i64 (.x p4), .sla 6 2 0 p5, .int .i64 (.x p6), .int .i64 (.x p7)], 0, true, none⟩), (5, ⟨.rows p2 2 (fun i => [.int .i64 (.x (p8 i)), .int .i64 (.x (p9 i))]) (fun _ => ⟨rfl, rfl⟩), 2, true, none⟩), (6, ⟨.rows p5 2 (fun i => [.int .i64 (.x (p10 i)), .int .i64 (.x (p11 i))]) (fun _ => ⟨rfl, rfl⟩), 2, true, none⟩)] ++ []) ++ [(0, ⟨.arg a0 2 (fun i => [.int .i64 (.x (a1 i)), .int .i64 (.x (a2 i))]) (fun _ => ⟨rfl, rfl⟩), 2, true, none⟩), (1, ⟨.arg a5 2 (fun i => [.int .i64 (.x (a6 i)), .int .i64 (.x (a7 i))]) (fun _ => ⟨rfl, rfl⟩), 2, true, none⟩)]))
  args := [.yld 7, .ptr (some (4, 0))]
  res := (Try.f89).results.toList
  path := fun a => match a with
   | .n0 q0 q1 => [1, 1, 0]
  pd := fun a => match a with
   | .n0 q0 q1 => ⟨[(0, .yld 7), (3, .int .i64 (.x (↑p2))), (13, .int .i64 (.x (↑p5))), (14, .int .i64 (.x q0))], [(3, ⟨.lit [.int .i64 (.x q1)], 0, true, none⟩)], 8, [(7, recS (mkT [(8, .ptr (some (2, 0))), (10, .ptr (some (3, 0))), (23, .fn (.func 89) [] [.ptr (some (4, 0))])]) 32 (rgP (codeAt adeCode [1, 1, 1, 1, 0, 1, 0])) (rgA (codeAt adeCode [1, 1, 1, 1, 0, 1, 0])) (rgB (codeAt adeCode [1, 1, 1, 1, 0, 1, 0])) (.ready) (.none))]⟩
  D0 := ades0D0 a0 a1 a2 a3 a4 a5 a6 a7 a8 a9 a10 a11 p0 p1 p2 p3 p4 p5 p6 p7 p8 p9 p10 p11
  D := ades0D a0 a1 a2 a3 a4 a5 a6 a7 a8 a9 a10 a11 p0 p1 p2 p3 p4 p5 p6 p7 p8 p9 p10 p11
  rc := (fun v => match v with
 | .r0 q0 => .tup []
 | .r1 q0 => .tup [])
  rh := (fun v => match v with
 | .r0 q0 => [(3, ⟨.lit [.int .i64 (.x q0)], 0, true, none⟩)]
 | .r1 q0 => [(3, ⟨.lit [.int .i64 (.x q0)], 0, true, none⟩)])
  rn := (fun v => match v with
 | .r0 q0 => 8
 | .r1 q0 => 8)
  rx := (fun v => match v with
 | .r0 q0 => [(7, recS (mkT [(8, .ptr (some (2, 0))), (10, .ptr (some (3, 0))), (23, .fn (.func 89) [] [.ptr (some (4, 0))])]) 32 (rgP (codeAt adeCode [1, 1, 1, 1, 0, 1, 0])) (rgA (codeAt adeCode [1, 1, 1, 1, 0, 1, 0])) (rgB (codeAt adeCode [1, 1, 1, 1, 0, 1, 0])) (.ready) (.none))]
 | .r1 q0 => [(7, recS (mkT [(8, .ptr (some (2, 0))), (10, .ptr (some (3, 0))), (23, .fn (.func 89) [] [.ptr (some (4, 0))])]) 32 (rgP (codeAt adeCode [1, 1, 1, 1, 0, 1, 0])) (rgA (codeAt adeCode [1, 1, 1, 1, 0, 1, 0])) (rgB (codeAt adeCode [1, 1, 1, 1, 0, 1, 0])) (.done) ((.some (.exit 0))))])
  rgo := (fun _ => none)
theorem ades0start (a0 : Nat) (a1 a2 : Nat → Int) (a3 a4 : Int) (a5 : Nat) (a6 a7 : Nat → Int) (a8 a9 a10 a11 p0 p1 : Int) (p2 : Nat) (p3 p4 : Int) (p5 : Nat) (p6 p7 : Int) (p8 p9 p10 p11 : Nat → Int) : AF.edgeOk (ades0A a0 a1 a2 a3 a4 a5 a6 a7 a8 a9 a10 a11 p0 p1 p2 p3 p4 p5 p6 p7 p8 p9 p10 p11) (ctxOf Try.prog memo0) (ades0D0 a0 a1 a2 a3 a4 a5 a6 a7 a8 a9 a10 a11 p0 p1 p2 p3 p4 p5 p6 p7 p8 p9 p10 p11) (AF.run0 (ades0A a0 a1 a2 a3 a4 a5 a6 a7 a8 a9 a10 a11 p0 p1 p2 p3 p4 p5 p6 p7 p8 p9 p10 p11) (ctxOf Try.prog (memoS 65 ashP ashF ashW ashH 2 (memoS 64 ameP ameF ameW ameH 4 memo0)))) := by unfold AF.edgeOk; kernel_rfl
theorem ades0node0 (a0 : Nat) (a1 a2 : Nat → Int) (a3 a4 : Int) (a5 : Nat) (a6 a7 : Nat → Int) (a8 a9 a10 a11 p0 p1 : Int) (p2 : Nat) (p3 p4 : Int) (p5 : Nat) (p6 p7 : Int) (p8 p9 p10 p11 : Nat → Int) (q0 q1 : Int) : AF.edgeOk (ades0A a0 a1 a2 a3 a4 a5 a6 a7 a8 a9 a10 a11 p0 p1 p2 p3 p4 p5 p6 p7 p8 p9 p10 p11) (ctxOf Try.prog memo0) (ades0D a0 a1 a2 a3 a4 a5 a6 a7 a8 a9 a10 a11 p0 p1 p2 p3 p4 p5 p6 p7 p8 p9 p10 p11 (.n0 q0 q1)) (AF.runN (ades0A a0 a1 a2 a3 a4 a5 a6 a7 a8 a9 a10 a11 p0 p1 p2 p3 p4 p5 p6 p7 p8 p9 p10 p11) (ctxOf Try.prog (memoS 65 ashP ashF ashW ashH 2 (memoS 64 ameP ameF ameW ameH 4 memo0))) (.n0 q0 q1)) := by unfold AF.edgeOk; kernel_rfl
theorem ades0ok (a0 : Nat) (a1 a2 : Nat → Int) (a3 a4 : Int) (a5 : Nat) (a6 a7 : Nat → Int) (a8 a9 a10 a11 p0 p1 : Int) (p2 : Nat) (p3 p4 : Int) (p5 : Nat) (p6 p7 : Int) (p8 p9 p10 p11 : Nat → Int) : (ades0A a0 a1 a2 a3 a4 a5 a6 a7 a8 a9 a10 a11 p0 p1 p2 p3 p4 p5 p6 p7 p8 p9 p10 p11).Ok Try.prog (ctxOf Try.prog (memoS 65 ashP ashF ashW ashH 2 (memoS 64 ameP ameF ameW ameH 4 memo0))) where
  regs := by kernel_rfl
  h0 := by kernel_rfl
  start := ades0start a0 a1 a2 a3 a4 a5 a6 a7 a8 a9 a10 a11 p0 p1 p2 p3 p4 p5 p6 p7 p8 p9 p10 p11
  node := fun a _ => match a with
   | .n0 q0 q1 => ades0node0 a0 a1 a2 a3 a4 a5 a6 a7 a8 a9 a10 a11 p0 p1 p2 p3 p4 p5 p6 p7 p8 p9 p10 p11 q0 q1
  pd := fun a => match a with
   | .n0 q0 q1 => ⟨(fa_cons rfl (fa_cons rfl (fa_cons rfl (fa_cons rfl fa_nil)))), (fa_cons ⟨.inr (memW rfl), rfl, rfl⟩ fa_nil), (fa_cons ⟨memW rfl, RecOk.of rfl⟩ fa_nil), rfl⟩
  le := fun a => match a with
   | .n0 q0 q1 => Nat.le_of_ble_eq_true rfl
  rd := fun v => match v with
   | .r0 q0 => ⟨⟨fa_nil, (fa_cons ⟨.inr (memW rfl), rfl, rfl⟩ fa_nil), (fa_cons ⟨memW rfl, RecOk.of rfl⟩ fa_nil), rfl⟩, rfl⟩
   | .r1 q0 => ⟨⟨fa_nil, (fa_cons ⟨.inr (memW rfl), rfl, rfl⟩ fa_nil), (fa_cons ⟨memW rfl, RecOk.of rfl⟩ fa_nil), rfl⟩, rfl⟩
  wb := rfl
theorem ades0hR {ρ : Env} (a0 : Nat) (a1 a2 : Nat → Int) (a3 a4 : Int) (a5 : Nat) (a6 a7 : Nat → Int) (a8 a9 a10 a11 p0 p1 : Int) (p2 : Nat) (p3 p4 : Int) (p5 : Nat) (p6 p7 : Int) (p8 p9 p10 p11 : Nat → Int) (hM : MemoOk Try.prog (ctxOf Try.prog (memoS 65 ashP ashF ashW ashH 2 (memoS 64 ameP ameF ameW ameH 4 memo0))) ρ) : ∀ X a q n D, FxOk ρ X → X.base = (ades0A a0 a1 a2 a3 a4 a5 a6 a7 a8 a9 a10 a11 p0 p1 p2 p3 p4 p5 p6 p7 p8 p9 p10 p11).base → X.nt = (ades0A a0 a1 a2 a3 a4 a5 a6 a7 a8 a9 a10 a11 p0 p1 p2 p3 p4 p5 p6 p7 p8 p9 p10 p11).nt → X.W = (ades0A a0 a1 a2 a3 a4 a5 a6 a7 a8 a9 a10 a11 p0 p1 p2 p3 p4 p5 p6 p7 p8 p9 p10 p11).W → (ades0A a0 a1 a2 a3 a4 a5 a6 a7 a8 a9 a10 a11 p0 p1 p2 p3 p4 p5 p6 p7 p8 p9 p10 p11).rgo a = some q → q n = some D → (ades0A a0 a1 a2 a3 a4 a5 a6 a7 a8 a9 a10 a11 p0 p1 p2 p3 p4 p5 p6 p7 p8 p9 p10 p11).RangeOk Try.prog ρ X a D := AF.noRange rfl
inductive adeN where
  | n0 (p0 p1 : Int) (p2 : Nat) (p3 p4 : Int) (p5 : Nat) (p6 p7 : Int) (p8 p9 p10 p11 : Nat → Int)
abbrev adeR := Int × Int
noncomputable def adeD0 (a0 : Nat) (a1 a2 : Nat → Int) (a3 a4 : Int) (a5 : Nat) (a6 a7 : Nat → Int) (a8 a9 a10 a11 : Int) : DD (Lf adeN adeR) :=
 let z0 := fun i => [CV.int IntKind.i64 (IE.x (a1 (0 + i))), CV.int IntKind.i64 (IE.x (a2 (0 + i)))]
 let z1 := fun i => [CV.int IntKind.i64 (IE.x (a6 (0 + i))), CV.int IntKind.i64 (IE.x (a7 (0 + i)))]
 let z2 := ameA a0 (fun i => a1 (0 + i)) (fun i => a2 (0 + i)) a3 a4 a5 (fun i => a6 (0 + i)) (fun i => a7 (0 + i)) a8 a9 a10 a11
 let z3 := AF.val z2
 .must (decide (0 + a0 ≤ a0))
   (.must (ShapeOk [some IntKind.i64, some IntKind.i64] (tabOf a0 z0) z0)
   (.must (decide (0 + a5 ≤ a5))
   (.must (ShapeOk [some IntKind.i64, some IntKind.i64] (tabOf a5 z1) z1)
   (.must (AF.fin z2)
   (.ask (Cm.run .neq (amew8 z3) 0)
   (.leaf (.done (0, amew8 z3) []))
   (.leaf (.next (.n0 (amew0 z3) (amew1 z3) (amew2 z3) (amew3 z3) (amew4 z3) (amew5 z3) (amew6 z3) (amew7 z3) (fun i => amew9 z3 i) (fun i => amew10 z3 i) (fun i => amew11 z3 i) (fun i => amew12 z3 i)) [7, 8, 9, 5, 6])))))))

noncomputable def adeD (a0 : Nat) (a1 a2 : Nat → Int) (a3 a4 : Int) (a5 : Nat) (a6 a7 : Nat → Int) (a8 a9 a10 a11 : Int) : adeN → DD (Lf adeN adeR)
 | .n0 p0 p1 p2 p3 p4 p5 p6 p7 p8 p9 p10 p11 =>
 .dead

noncomputable def adeRg0 (a0 : Nat) (a1 a2 : Nat → Int) (a3 a4 : Int) (a5 : Nat) (a6 a7 : Nat → Int) (a8 a9 a10 a11 p0 p1 : Int) (p2 : Nat) (p3 p4 : Int) (p5 : Nat) (p6 p7 : Int) (p8 p9 p10 p11 : Nat → Int) : ades0R → DD (Lf adeN adeR)
 | .r0 q0 =>
 .leaf (.done (q0, 0) [])
 | .r1 q0 =>
 .leaf (.done (q0, 0) [])

noncomputable def adeA (a0 : Nat) (a1 a2 : Nat → Int) (a3 a4 : Int) (a5 : Nat) (a6 a7 : Nat → Int) (a8 a9 a10 a11 : Int) : AF adeN adeR where
  code := adeCode
  base := 2
  nt := 32
  m := 400
  un := [1000006]
  W := []
  h0 := [(0, ⟨.arg a0 2 (fun i => [.int .i64 (.x (a1 i)), .int .i64 (.x (a2 i))]) (fun _ => ⟨rfl, rfl⟩), 2, true, none⟩), (1, ⟨.arg a5 2 (fun i => [.int .i64 (.x (a6 i)), .int .i64 (.x (a7 i))]) (fun _ => ⟨rfl, rfl⟩), 2, true, none⟩)]
  args := [.agg [.sla 0 2 0 a0, .int .i64 (.x a3), .int .i64 (.x a4)], .agg [.sla 1 2 0 a5, .int .i64 (.x a8), .int .i64 (.x a9)], .agg [.int .i64 (.x a10), .int .i64 (.x a11)]]
  res := (Try.f24).results.toList
  path := fun a => match a with
   | .n0 p0 p1 p2 p3 p4 p5 p6 p7 p8 p9 p10 p11 => [1, 1, 1, 1, 0, 1, 0]
  pd := fun a => match a with
   | .n0 p0 p1 p2 p3 p4 p5 p6 p7 p8 p9 p10 p11 => ⟨[(8, .ptr (some (2, 0))), (10, .ptr (some (3, 0))), (23, .fn (.func 89) [] [.ptr (some (4, 0))])], [(2, ⟨.lit [.int .i64 (.x p0), .int .i64 (.x p1), .sla 5 2 0 p2, .int .i64 (.x p3), .int .i64 (.x p4), .sla 6 2 0 p5, .int .i64 (.x p6), .int .i64 (.x p7)], 0, true, none⟩), (3, ⟨.lit [.int .i64 (.x 0)], 0, true, none⟩), (4, ⟨.lit [.int .i64 (.x p0), .int .i64 (.x p1), .sla 5 2 0 p2, .int .i64 (.x p3), .int .i64 (.x p4), .sla 6 2 0 p5, .int .i64 (.x p6), .int .i64 (.x p7)], 0, true, none⟩), (5, ⟨.rows p2 2 (fun i => [.int .i64 (.x (p8 i)), .int .i64 (.x (p9 i))]) (fun _ => ⟨rfl, rfl⟩), 2, true, none⟩), (6, ⟨.rows p5 2 (fun i => [.int .i64 (.x (p10 i)), .int .i64 (.x (p11 i))]) (fun _ => ⟨rfl, rfl⟩), 2, true, none⟩)], 7, []⟩
  D0 := adeD0 a0 a1 a2 a3 a4 a5 a6 a7 a8 a9 a10 a11
  D := adeD a0 a1 a2 a3 a4 a5 a6 a7 a8 a9 a10 a11
  rc := (fun v => .tup [.int .i64 (.x v.1), .int .i64 (.x v.2)])
  rh := (fun v => [])
  rn := (fun v => 2)
  rx := (fun v => [])
  rgo := (fun a => match a with
   | .n0 p0 p1 p2 p3 p4 p5 p6 p7 p8 p9 p10 p11 => some (fun n => (AF.run (ades0A a0 a1 a2 a3 a4 a5 a6 a7 a8 a9 a10 a11 p0 p1 p2 p3 p4 p5 p6 p7 p8 p9 p10 p11) n).map (adeRg0 a0 a1 a2 a3 a4 a5 a6 a7 a8 a9 a10 a11 p0 p1 p2 p3 p4 p5 p6 p7 p8 p9 p10 p11)))
theorem adestart (a0 : Nat) (a1 a2 : Nat → Int) (a3 a4 : Int) (a5 : Nat) (a6 a7 : Nat → Int) (a8 a9 a10 a11 : Int) : AF.edgeOk (adeA a0 a1 a2 a3 a4 a5 a6 a7 a8 a9 a10 a11) (ctxOf Try.prog memo0) (adeD0 a0 a1 a2 a3 a4 a5 a6 a7 a8 a9 a10 a11) (AF.run0 (adeA a0 a1 a2 a3 a4 a5 a6 a7 a8 a9 a10 a11) (ctxOf Try.prog (memoS 65 ashP ashF ashW ashH 2 (memoS 64 ameP ameF ameW ameH 4 memo0)))) := by unfold AF.edgeOk; kernel_rfl
theorem adeok (a0 : Nat) (a1 a2 : Nat → Int) (a3 a4 : Int) (a5 : Nat) (a6 a7 : Nat → Int) (a8 a9 a10 a11 : Int) : (adeA a0 a1 a2 a3 a4 a5 a6 a7 a8 a9 a10 a11).Ok Try.prog (ctxOf Try.prog (memoS 65 ashP ashF ashW ashH 2 (memoS 64 ameP ameF ameW ameH 4 memo0))) where
  regs := by kernel_rfl
  h0 := by kernel_rfl
  start := adestart a0 a1 a2 a3 a4 a5 a6 a7 a8 a9 a10 a11
  node := fun a h => match a, h with
   | .n0 p0 p1 p2 p3 p4 p5 p6 p7 p8 p9 p10 p11, h => someNe h
  pd := fun a => match a with
   | .n0 p0 p1 p2 p3 p4 p5 p6 p7 p8 p9 p10 p11 => ⟨(fa_cons rfl (fa_cons rfl (fa_cons rfl fa_nil))), (fa_cons ⟨.inl (Nat.le_of_ble_eq_true rfl), rfl, rfl⟩ (fa_cons ⟨.inl (Nat.le_of_ble_eq_true rfl), rfl, rfl⟩ (fa_cons ⟨.inl (Nat.le_of_ble_eq_true rfl), rfl, rfl⟩ (fa_cons ⟨.inl (Nat.le_of_ble_eq_true rfl), (fun _ => rfl), rfl⟩ (fa_cons ⟨.inl (Nat.le_of_ble_eq_true rfl), (fun _ => rfl), rfl⟩ fa_nil))))), fa_nil, rfl⟩
  le := fun a => match a with
   | .n0 p0 p1 p2 p3 p4 p5 p6 p7 p8 p9 p10 p11 => Nat.le_of_ble_eq_true rfl
  rd := fun v => ⟨⟨fa_nil, fa_nil, fa_nil, rfl⟩, rfl⟩
  wb := rfl
theorem aderg0_0 (a0 : Nat) (a1 a2 : Nat → Int) (a3 a4 : Int) (a5 : Nat) (a6 a7 : Nat → Int) (a8 a9 a10 a11 p0 p1 : Int) (p2 : Nat) (p3 p4 : Int) (p5 : Nat) (p6 p7 : Int) (p8 p9 p10 p11 : Nat → Int) (q0 : Int) : AF.edgeOk (adeA a0 a1 a2 a3 a4 a5 a6 a7 a8 a9 a10 a11) (ctxOf Try.prog memo0) (adeRg0 a0 a1 a2 a3 a4 a5 a6 a7 a8 a9 a10 a11 p0 p1 p2 p3 p4 p5 p6 p7 p8 p9 p10 p11 (.r0 q0)) (AF.runR (adeA a0 a1 a2 a3 a4 a5 a6 a7 a8 a9 a10 a11) (ctxOf Try.prog (memoS 65 ashP ashF ashW ashH 2 (memoS 64 ameP ameF ameW ameH 4 memo0))) (.n0 p0 p1 p2 p3 p4 p5 p6 p7 p8 p9 p10 p11) (putH (ades0A a0 a1 a2 a3 a4 a5 a6 a7 a8 a9 a10 a11 p0 p1 p2 p3 p4 p5 p6 p7 p8 p9 p10 p11).H0 ((ades0A a0 a1 a2 a3 a4 a5 a6 a7 a8 a9 a10 a11 p0 p1 p2 p3 p4 p5 p6 p7 p8 p9 p10 p11).rh (.r0 q0) ++ (ades0A a0 a1 a2 a3 a4 a5 a6 a7 a8 a9 a10 a11 p0 p1 p2 p3 p4 p5 p6 p7 p8 p9 p10 p11).rx (.r0 q0))) ((ades0A a0 a1 a2 a3 a4 a5 a6 a7 a8 a9 a10 a11 p0 p1 p2 p3 p4 p5 p6 p7 p8 p9 p10 p11).rn (.r0 q0)) ⟨mkT [(8, .ptr (some (2, 0))), (10, .ptr (some (3, 0))), (23, .fn (.func 89) [] [.ptr (some (4, 0))])], 32, rgP (codeAt adeCode [1, 1, 1, 1, 0, 1, 0]), rgA (codeAt adeCode [1, 1, 1, 1, 0, 1, 0]), rgB (codeAt adeCode [1, 1, 1, 1, 0, 1, 0]), .ready, .none⟩ .normal) := by unfold AF.edgeOk; kernel_rfl
theorem aderg0_1 (a0 : Nat) (a1 a2 : Nat → Int) (a3 a4 : Int) (a5 : Nat) (a6 a7 : Nat → Int) (a8 a9 a10 a11 p0 p1 : Int) (p2 : Nat) (p3 p4 : Int) (p5 : Nat) (p6 p7 : Int) (p8 p9 p10 p11 : Nat → Int) (q0 : Int) : AF.edgeOk (adeA a0 a1 a2 a3 a4 a5 a6 a7 a8 a9 a10 a11) (ctxOf Try.prog memo0) (adeRg0 a0 a1 a2 a3 a4 a5 a6 a7 a8 a9 a10 a11 p0 p1 p2 p3 p4 p5 p6 p7 p8 p9 p10 p11 (.r1 q0)) (AF.runR (adeA a0 a1 a2 a3 a4 a5 a6 a7 a8 a9 a10 a11) (ctxOf Try.prog (memoS 65 ashP ashF ashW ashH 2 (memoS 64 ameP ameF ameW ameH 4 memo0))) (.n0 p0 p1 p2 p3 p4 p5 p6 p7 p8 p9 p10 p11) (putH (ades0A a0 a1 a2 a3 a4 a5 a6 a7 a8 a9 a10 a11 p0 p1 p2 p3 p4 p5 p6 p7 p8 p9 p10 p11).H0 ((ades0A a0 a1 a2 a3 a4 a5 a6 a7 a8 a9 a10 a11 p0 p1 p2 p3 p4 p5 p6 p7 p8 p9 p10 p11).rh (.r1 q0) ++ (ades0A a0 a1 a2 a3 a4 a5 a6 a7 a8 a9 a10 a11 p0 p1 p2 p3 p4 p5 p6 p7 p8 p9 p10 p11).rx (.r1 q0))) ((ades0A a0 a1 a2 a3 a4 a5 a6 a7 a8 a9 a10 a11 p0 p1 p2 p3 p4 p5 p6 p7 p8 p9 p10 p11).rn (.r1 q0)) ⟨mkT [(8, .ptr (some (2, 0))), (10, .ptr (some (3, 0))), (23, .fn (.func 89) [] [.ptr (some (4, 0))])], 32, rgP (codeAt adeCode [1, 1, 1, 1, 0, 1, 0]), rgA (codeAt adeCode [1, 1, 1, 1, 0, 1, 0]), rgB (codeAt adeCode [1, 1, 1, 1, 0, 1, 0]), .done, (.some (.exit 0))⟩ (.exit 0)) := by unfold AF.edgeOk; kernel_rfl
theorem aderg0 (a0 : Nat) (a1 a2 : Nat → Int) (a3 a4 : Int) (a5 : Nat) (a6 a7 : Nat → Int) (a8 a9 a10 a11 p0 p1 : Int) (p2 : Nat) (p3 p4 : Int) (p5 : Nat) (p6 p7 : Int) (p8 p9 p10 p11 : Nat → Int) : AF.Rg (adeA a0 a1 a2 a3 a4 a5 a6 a7 a8 a9 a10 a11) (ades0A a0 a1 a2 a3 a4 a5 a6 a7 a8 a9 a10 a11 p0 p1 p2 p3 p4 p5 p6 p7 p8 p9 p10 p11) Try.prog (ctxOf Try.prog (memoS 65 ashP ashF ashW ashH 2 (memoS 64 ameP ameF ameW ameH 4 memo0))) (ctxOf Try.prog (memoS 65 ashP ashF ashW ashH 2 (memoS 64 ameP ameF ameW ameH 4 memo0))) (.n0 p0 p1 p2 p3 p4 p5 p6 p7 p8 p9 p10 p11) (rgF (codeAt adeCode [1, 1, 1, 1, 0, 1, 0])) (rgP (codeAt adeCode [1, 1, 1, 1, 0, 1, 0])) (rgA (codeAt adeCode [1, 1, 1, 1, 0, 1, 0])) (rgB (codeAt adeCode [1, 1, 1, 1, 0, 1, 0])) 89 Try.f89 [] [.ptr (some (4, 0))] (fun v => match v with
   | .r0 q0 => ⟨mkT [(8, .ptr (some (2, 0))), (10, .ptr (some (3, 0))), (23, .fn (.func 89) [] [.ptr (some (4, 0))])], 32, rgP (codeAt adeCode [1, 1, 1, 1, 0, 1, 0]), rgA (codeAt adeCode [1, 1, 1, 1, 0, 1, 0]), rgB (codeAt adeCode [1, 1, 1, 1, 0, 1, 0]), .ready, .none⟩
   | .r1 q0 => ⟨mkT [(8, .ptr (some (2, 0))), (10, .ptr (some (3, 0))), (23, .fn (.func 89) [] [.ptr (some (4, 0))])], 32, rgP (codeAt adeCode [1, 1, 1, 1, 0, 1, 0]), rgA (codeAt adeCode [1, 1, 1, 1, 0, 1, 0]), rgB (codeAt adeCode [1, 1, 1, 1, 0, 1, 0]), .done, (.some (.exit 0))⟩) (fun v => match v with
   | .r0 q0 => .normal
   | .r1 q0 => (.exit 0)) (adeRg0 a0 a1 a2 a3 a4 a5 a6 a7 a8 a9 a10 a11 p0 p1 p2 p3 p4 p5 p6 p7 p8 p9 p10 p11) where
  code := by kernel_rfl
  fn := by kernel_rfl
  args := rfl
  base := rfl
  h0 := rfl
  W := rfl
  gfn := Try.func89
  body := rfl
  nt := rfl
  len := Nat.le_of_ble_eq_true rfl
  res := rfl
  ok := ades0ok a0 a1 a2 a3 a4 a5 a6 a7 a8 a9 a10 a11 p0 p1 p2 p3 p4 p5 p6 p7 p8 p9 p10 p11
  le := fun v => match v with
   | .r0 q0 => Nat.le_of_ble_eq_true rfl
   | .r1 q0 => Nat.le_of_ble_eq_true rfl
  lt := fun v => match v with
   | .r0 q0 => rfl
   | .r1 q0 => rfl
  rcd := fun v => match v with
   | .r0 q0 => rfl
   | .r1 q0 => rfl
  st := fun v => match v with
   | .r0 q0 => (fun h => LoopState.noConfusion h)
   | .r1 q0 => (fun h => LoopState.noConfusion h)
  exd := fun v => match v with
   | .r0 q0 => rfl
   | .r1 q0 => rfl
  D := fun v => match v with
   | .r0 q0 => aderg0_0 a0 a1 a2 a3 a4 a5 a6 a7 a8 a9 a10 a11 p0 p1 p2 p3 p4 p5 p6 p7 p8 p9 p10 p11 q0
   | .r1 q0 => aderg0_1 a0 a1 a2 a3 a4 a5 a6 a7 a8 a9 a10 a11 p0 p1 p2 p3 p4 p5 p6 p7 p8 p9 p10 p11 q0
theorem adehR {ρ : Env} (a0 : Nat) (a1 a2 : Nat → Int) (a3 a4 : Int) (a5 : Nat) (a6 a7 : Nat → Int) (a8 a9 a10 a11 : Int) (hM : MemoOk Try.prog (ctxOf Try.prog (memoS 65 ashP ashF ashW ashH 2 (memoS 64 ameP ameF ameW ameH 4 memo0))) ρ) : ∀ X a q n D, FxOk ρ X → X.base = (adeA a0 a1 a2 a3 a4 a5 a6 a7 a8 a9 a10 a11).base → X.nt = (adeA a0 a1 a2 a3 a4 a5 a6 a7 a8 a9 a10 a11).nt → X.W = (adeA a0 a1 a2 a3 a4 a5 a6 a7 a8 a9 a10 a11).W → (adeA a0 a1 a2 a3 a4 a5 a6 a7 a8 a9 a10 a11).rgo a = some q → q n = some D → (adeA a0 a1 a2 a3 a4 a5 a6 a7 a8 a9 a10 a11).RangeOk Try.prog ρ X a D := by
  intro X a q n D h1 h2 h3 h4 hq hD
  cases a with
  | n0 p0 p1 p2 p3 p4 p5 p6 p7 p8 p9 p10 p11 =>
    have e := Option.some.inj hq
    subst e
    exact AF.range_ok (n := n) try_ok hM hM (adeok a0 a1 a2 a3 a4 a5 a6 a7 a8 a9 a10 a11) (aderg0 a0 a1 a2 a3 a4 a5 a6 a7 a8 a9 a10 a11 p0 p1 p2 p3 p4 p5 p6 p7 p8 p9 p10 p11) (ades0hR a0 a1 a2 a3 a4 a5 a6 a7 a8 a9 a10 a11 p0 p1 p2 p3 p4 p5 p6 p7 p8 p9 p10 p11 hM) h1 h2 h3 h4 hD
theorem adectr {ρ : Env} (a0 : Nat) (a1 a2 : Nat → Int) (a3 a4 : Int) (a5 : Nat) (a6 a7 : Nat → Int) (a8 a9 a10 a11 : Int) {n : Nat} {v : adeR} (hM : MemoOk Try.prog (ctxOf Try.prog (memoS 65 ashP ashF ashW ashH 2 (memoS 64 ameP ameF ameW ameH 4 memo0))) ρ) (hv : (adeA a0 a1 a2 a3 a4 a5 a6 a7 a8 a9 a10 a11).run n = some v) :
    Ctr Try.prog ρ 24 (adeA a0 a1 a2 a3 a4 a5 a6 a7 a8 a9 a10 a11).args (adeA a0 a1 a2 a3 a4 a5 a6 a7 a8 a9 a10 a11).H0 (adeA a0 a1 a2 a3 a4 a5 a6 a7 a8 a9 a10 a11).base (adeA a0 a1 a2 a3 a4 a5 a6 a7 a8 a9 a10 a11).W ((adeA a0 a1 a2 a3 a4 a5 a6 a7 a8 a9 a10 a11).rc v) (putH (adeA a0 a1 a2 a3 a4 a5 a6 a7 a8 a9 a10 a11).H0 ((adeA a0 a1 a2 a3 a4 a5 a6 a7 a8 a9 a10 a11).rh v ++ (adeA a0 a1 a2 a3 a4 a5 a6 a7 a8 a9 a10 a11).rx v)) ((adeA a0 a1 a2 a3 a4 a5 a6 a7 a8 a9 a10 a11).rn v) :=
  AF.ctr try_ok hM (adeok a0 a1 a2 a3 a4 a5 a6 a7 a8 a9 a10 a11) (fn := Try.f24) Try.func24 rfl rfl (Nat.le_of_ble_eq_true rfl) rfl (adehR a0 a1 a2 a3 a4 a5 a6 a7 a8 a9 a10 a11 hM) hv
theorem ademem {ρ : Env} : MemoOk Try.prog (ctxOf Try.prog (memoS 65 ashP ashF ashW ashH 2 (memoS 64 ameP ameF ameW ameH 4 memo0))) ρ := (memoS_ok (ashknown ashmem) (memoS_ok (ameknown amemem) memo0_ok))
abbrev adeP : List AQ := [.agg [.rows [some .i64, some .i64], .int .i64, .int .i64], .agg [.rows [some .i64, some .i64], .int .i64, .int .i64], .agg [.int .i64, .int .i64]]
noncomputable def adeF (v : AW) : AF adeN adeR := adeA (v.t.getD 0 .none).n ((v.t.getD 0 .none).c 0) ((v.t.getD 0 .none).c 1) (v.i.getD 0 0) (v.i.getD 1 0) (v.t.getD 1 .none).n ((v.t.getD 1 .none).c 0) ((v.t.getD 1 .none).c 1) (v.i.getD 2 0) (v.i.getD 3 0) (v.i.getD 4 0) (v.i.getD 5 0)
noncomputable def adeW : adeR → CV := fun v => .tup [.int .i64 (.x v.1), .int .i64 (.x v.2)]
noncomputable def adeH : adeR → List (Nat × Blk) := fun v => []
instance : Inhabited adeR := ⟨(0, 0)⟩
theorem adeknown {ρ : Env} (hM : MemoOk Try.prog (ctxOf Try.prog (memoS 65 ashP ashF ashW ashH 2 (memoS 64 ameP ameF ameW ameH 4 memo0))) ρ) : KnownS Try.prog ρ 24 adeP adeF adeW adeH 2 where
  fn := ⟨Try.f24, Try.func24, rfl⟩
  le := Nat.le_of_ble_eq_true rfl
  full := fun r => rfl
  rg := fun r => rfl
  hg := fun r => fa_nil
  ctr := fun v n r h => adectr (v.t.getD 0 .none).n ((v.t.getD 0 .none).c 0) ((v.t.getD 0 .none).c 1) (v.i.getD 0 0) (v.i.getD 1 0) (v.t.getD 1 .none).n ((v.t.getD 1 .none).c 0) ((v.t.getD 1 .none).c 1) (v.i.getD 2 0) (v.i.getD 3 0) (v.i.getD 4 0) (v.i.getD 5 0) hM h
end Go.Proofs.Ytjdldcmcjaaibaa.Cx

/- acme/acmeref03.Deep as an automaton. Made by tools/cxauto.py. -/
namespace Go.Proofs.Ytjdldcmcjaaibaa.Cx
set_option linter.unusedVariables false
set_option linter.unusedSimpArgs false
set_option maxRecDepth 100000
open Go Go.Proofs Go.RowKit
noncomputable abbrev frdCode : Code := funcCode Try.f26
inductive frdN where
  | n0 (p0 : Int)
abbrev frdR := Int
noncomputable def frdD0 (a0 : Nat) (a1 a2 : Nat → Int) (a3 a4 : Int) (a5 : Nat) (a6 a7 : Nat → Int) (a8 a9 a10 a11 : Int) : DD (Lf frdN frdR) :=
 .leaf (.next (.n0 1) [2, 3, 4])

noncomputable def frdD (a0 : Nat) (a1 a2 : Nat → Int) (a3 a4 : Int) (a5 : Nat) (a6 a7 : Nat → Int) (a8 a9 a10 a11 : Int) : frdN → DD (Lf frdN frdR)
 | .n0 p0 =>
 let z0 := fun i => [CV.int IntKind.i64 (IE.x (a1 (0 + i))), CV.int IntKind.i64 (IE.x (a2 (0 + i)))]
 let z1 := fun i => [CV.int IntKind.i64 (IE.x (a6 (0 + i))), CV.int IntKind.i64 (IE.x (a7 (0 + i)))]
 let z2 := fun i => a1 (0 + i)
 let z3 := fun i => a2 (0 + i)
 let z4 := fun i => a6 (0 + i)
 let z5 := fun i => a7 (0 + i)
 .ask (Cm.run .leq p0 (↑a5 : Int))
   (.must (decide (0 + a0 ≤ a0))
   (.must (ShapeOk [some IntKind.i64, some IntKind.i64] (tabOf a0 z0) z0)
   (.must (decide (0 + a5 ≤ a5))
   (.must (ShapeOk [some IntKind.i64, some IntKind.i64] (tabOf a5 z1) z1)
   (.must (AF.fin (frsA a0 z2 z3 a3 a4 a5 z4 z5 a8 a9 (Ar.run .sub .i64 ((↑a0 : Int)) (Ar.run .mn .i64 p0 (↑a0 : Int))) (Ar.run .sub .i64 p0 (Ar.run .mn .i64 p0 (↑a0 : Int))) (Ar.run .mn .i64 p0 (↑a0 : Int)) a10 a11))
   (.ask (Cm.run .gtr (Prod.fst (AF.val (frsA a0 z2 z3 a3 a4 a5 z4 z5 a8 a9 (Ar.run .sub .i64 ((↑a0 : Int)) (Ar.run .mn .i64 p0 (↑a0 : Int))) (Ar.run .sub .i64 p0 (Ar.run .mn .i64 p0 (↑a0 : Int))) (Ar.run .mn .i64 p0 (↑a0 : Int)) a10 a11))) (Prod.snd (AF.val (frsA a0 z2 z3 a3 a4 a5 z4 z5 a8 a9 (Ar.run .sub .i64 ((↑a0 : Int)) (Ar.run .mn .i64 p0 (↑a0 : Int))) (Ar.run .sub .i64 p0 (Ar.run .mn .i64 p0 (↑a0 : Int))) (Ar.run .mn .i64 p0 (↑a0 : Int)) a10 a11))))
   (.leaf (.done (Ar.run .sub .i64 p0 1) []))
   (.leaf (.next (.n0 (Ar.run .add .i64 p0 1)) [2, 3, 4]))))))))
   (.leaf (.done (↑a5) []))

noncomputable def frdA (a0 : Nat) (a1 a2 : Nat → Int) (a3 a4 : Int) (a5 : Nat) (a6 a7 : Nat → Int) (a8 a9 a10 a11 : Int) : AF frdN frdR where
  code := frdCode
  base := 2
  nt := 45
  m := 400
  un := []
  W := []
  h0 := [(0, ⟨.arg a0 2 (fun i => [.int .i64 (.x (a1 i)), .int .i64 (.x (a2 i))]) (fun _ => ⟨rfl, rfl⟩), 2, true, none⟩), (1, ⟨.arg a5 2 (fun i => [.int .i64 (.x (a6 i)), .int .i64 (.x (a7 i))]) (fun _ => ⟨rfl, rfl⟩), 2, true, none⟩)]
  args := [.agg [.sla 0 2 0 a0, .int .i64 (.x a3), .int .i64 (.x a4)], .agg [.sla 1 2 0 a5, .int .i64 (.x a8), .int .i64 (.x a9)], .agg [.int .i64 (.x a10), .int .i64 (.x a11)]]
  res := (Try.f26).results.toList
  path := fun a => match a with
   | .n0 p0 => [1, 1, 0, 1, 0]
  pd := fun a => match a with
   | .n0 p0 => ⟨[(3, .ptr (some (2, 0))), (4, .ptr (some (3, 0))), (5, .ptr (some (4, 0))), (7, .int .i64 (.x (↑a0))), (8, .int .i64 (.x p0))], [(2, ⟨.lit [.sla 0 2 0 a0, .int .i64 (.x a3), .int .i64 (.x a4)], 0, true, none⟩), (3, ⟨.lit [.sla 1 2 0 a5, .int .i64 (.x a8), .int .i64 (.x a9)], 0, true, none⟩), (4, ⟨.lit [.int .i64 (.x a10), .int .i64 (.x a11)], 0, true, none⟩)], 5, []⟩
  D0 := frdD0 a0 a1 a2 a3 a4 a5 a6 a7 a8 a9 a10 a11
  D := frdD a0 a1 a2 a3 a4 a5 a6 a7 a8 a9 a10 a11
  rc := (fun v => .int .i64 (.x v))
  rh := (fun v => [])
  rn := (fun v => 2)
  rx := (fun v => [])
  rgo := (fun _ => none)
theorem frdstart (a0 : Nat) (a1 a2 : Nat → Int) (a3 a4 : Int) (a5 : Nat) (a6 a7 : Nat → Int) (a8 a9 a10 a11 : Int) : AF.edgeOk (frdA a0 a1 a2 a3 a4 a5 a6 a7 a8 a9 a10 a11) (ctxOf Try.prog memo0) (frdD0 a0 a1 a2 a3 a4 a5 a6 a7 a8 a9 a10 a11) (AF.run0 (frdA a0 a1 a2 a3 a4 a5 a6 a7 a8 a9 a10 a11) (ctxOf Try.prog (memoS 27 frsP frsF frsW frsH 2 memo0))) := by unfold AF.edgeOk; kernel_rfl
theorem frdnode0 (a0 : Nat) (a1 a2 : Nat → Int) (a3 a4 : Int) (a5 : Nat) (a6 a7 : Nat → Int) (a8 a9 a10 a11 p0 : Int) : AF.edgeOk (frdA a0 a1 a2 a3 a4 a5 a6 a7 a8 a9 a10 a11) (ctxOf Try.prog memo0) (frdD a0 a1 a2 a3 a4 a5 a6 a7 a8 a9 a10 a11 (.n0 p0)) (AF.runN (frdA a0 a1 a2 a3 a4 a5 a6 a7 a8 a9 a10 a11) (ctxOf Try.prog (memoS 27 frsP frsF frsW frsH 2 memo0)) (.n0 p0)) := by unfold AF.edgeOk; kernel_rfl
theorem frdok (a0 : Nat) (a1 a2 : Nat → Int) (a3 a4 : Int) (a5 : Nat) (a6 a7 : Nat → Int) (a8 a9 a10 a11 : Int) : (frdA a0 a1 a2 a3 a4 a5 a6 a7 a8 a9 a10 a11).Ok Try.prog (ctxOf Try.prog (memoS 27 frsP frsF frsW frsH 2 memo0)) where
  regs := by kernel_rfl
  h0 := by kernel_rfl
  start := frdstart a0 a1 a2 a3 a4 a5 a6 a7 a8 a9 a10 a11
  node := fun a _ => match a with
   | .n0 p0 => frdnode0 a0 a1 a2 a3 a4 a5 a6 a7 a8 a9 a10 a11 p0
  pd := fun a => match a with
   | .n0 p0 => ⟨(fa_cons rfl (fa_cons rfl (fa_cons rfl (fa_cons rfl (fa_cons rfl fa_nil))))), (fa_cons ⟨.inl (Nat.le_of_ble_eq_true rfl), rfl, rfl⟩ (fa_cons ⟨.inl (Nat.le_of_ble_eq_true rfl), rfl, rfl⟩ (fa_cons ⟨.inl (Nat.le_of_ble_eq_true rfl), rfl, rfl⟩ fa_nil))), fa_nil, rfl⟩
  le := fun a => match a with
   | .n0 p0 => Nat.le_of_ble_eq_true rfl
  rd := fun v => ⟨⟨fa_nil, fa_nil, fa_nil, rfl⟩, rfl⟩
  wb := rfl
theorem frdhR {ρ : Env} (a0 : Nat) (a1 a2 : Nat → Int) (a3 a4 : Int) (a5 : Nat) (a6 a7 : Nat → Int) (a8 a9 a10 a11 : Int) (hM : MemoOk Try.prog (ctxOf Try.prog (memoS 27 frsP frsF frsW frsH 2 memo0)) ρ) : ∀ X a q n D, FxOk ρ X → X.base = (frdA a0 a1 a2 a3 a4 a5 a6 a7 a8 a9 a10 a11).base → X.nt = (frdA a0 a1 a2 a3 a4 a5 a6 a7 a8 a9 a10 a11).nt → X.W = (frdA a0 a1 a2 a3 a4 a5 a6 a7 a8 a9 a10 a11).W → (frdA a0 a1 a2 a3 a4 a5 a6 a7 a8 a9 a10 a11).rgo a = some q → q n = some D → (frdA a0 a1 a2 a3 a4 a5 a6 a7 a8 a9 a10 a11).RangeOk Try.prog ρ X a D := AF.noRange rfl
theorem frdctr {ρ : Env} (a0 : Nat) (a1 a2 : Nat → Int) (a3 a4 : Int) (a5 : Nat) (a6 a7 : Nat → Int) (a8 a9 a10 a11 : Int) {n : Nat} {v : frdR} (hM : MemoOk Try.prog (ctxOf Try.prog (memoS 27 frsP frsF frsW frsH 2 memo0)) ρ) (hv : (frdA a0 a1 a2 a3 a4 a5 a6 a7 a8 a9 a10 a11).run n = some v) :
    Ctr Try.prog ρ 26 (frdA a0 a1 a2 a3 a4 a5 a6 a7 a8 a9 a10 a11).args (frdA a0 a1 a2 a3 a4 a5 a6 a7 a8 a9 a10 a11).H0 (frdA a0 a1 a2 a3 a4 a5 a6 a7 a8 a9 a10 a11).base (frdA a0 a1 a2 a3 a4 a5 a6 a7 a8 a9 a10 a11).W ((frdA a0 a1 a2 a3 a4 a5 a6 a7 a8 a9 a10 a11).rc v) (putH (frdA a0 a1 a2 a3 a4 a5 a6 a7 a8 a9 a10 a11).H0 ((frdA a0 a1 a2 a3 a4 a5 a6 a7 a8 a9 a10 a11).rh v ++ (frdA a0 a1 a2 a3 a4 a5 a6 a7 a8 a9 a10 a11).rx v)) ((frdA a0 a1 a2 a3 a4 a5 a6 a7 a8 a9 a10 a11).rn v) :=
  AF.ctr try_ok hM (frdok a0 a1 a2 a3 a4 a5 a6 a7 a8 a9 a10 a11) (fn := Try.f26) Try.func26 rfl rfl (Nat.le_of_ble_eq_true rfl) rfl (frdhR a0 a1 a2 a3 a4 a5 a6 a7 a8 a9 a10 a11 hM) hv
theorem frdmem {ρ : Env} : MemoOk Try.prog (ctxOf Try.prog (memoS 27 frsP frsF frsW frsH 2 memo0)) ρ := (memoS_ok (frsknown frsmem) memo0_ok)
abbrev frdP : List AQ := [.agg [.rows [some .i64, some .i64], .int .i64, .int .i64], .agg [.rows [some .i64, some .i64], .int .i64, .int .i64], .agg [.int .i64, .int .i64]]
noncomputable def frdF (v : AW) : AF frdN frdR := frdA (v.t.getD 0 .none).n ((v.t.getD 0 .none).c 0) ((v.t.getD 0 .none).c 1) (v.i.getD 0 0) (v.i.getD 1 0) (v.t.getD 1 .none).n ((v.t.getD 1 .none).c 0) ((v.t.getD 1 .none).c 1) (v.i.getD 2 0) (v.i.getD 3 0) (v.i.getD 4 0) (v.i.getD 5 0)
noncomputable def frdW : frdR → CV := fun v => .int .i64 (.x v)
noncomputable def frdH : frdR → List (Nat × Blk) := fun v => []
instance : Inhabited frdR := ⟨0⟩
theorem frdknown {ρ : Env} (hM : MemoOk Try.prog (ctxOf Try.prog (memoS 27 frsP frsF frsW frsH 2 memo0)) ρ) : KnownS Try.prog ρ 26 frdP frdF frdW frdH 2 where
  fn := ⟨Try.f26, Try.func26, rfl⟩
  le := Nat.le_of_ble_eq_true rfl
  full := fun r => rfl
  rg := fun r => rfl
  hg := fun r => fa_nil
  ctr := fun v n r h => frdctr (v.t.getD 0 .none).n ((v.t.getD 0 .none).c 0) ((v.t.getD 0 .none).c 1) (v.i.getD 0 0) (v.i.getD 1 0) (v.t.getD 1 .none).n ((v.t.getD 1 .none).c 0) ((v.t.getD 1 .none).c 1) (v.i.getD 2 0) (v.i.getD 3 0) (v.i.getD 4 0) (v.i.getD 5 0) hM h
end Go.Proofs.Ytjdldcmcjaaibaa.Cx

/- Package fit: Deep, and the reference's. -/
namespace Go.Proofs.Ytjdldcmcjaaibaa.Cx
set_option linter.unusedVariables false
set_option linter.unusedSimpArgs false
set_option maxRecDepth 100000
set_option maxHeartbeats 4000000
open Go Go.RowKit
/-- How far a screw goes, where so many steps have a first and a last shift. -/
def DeepN (m : Nat) (F L : Int → Int) (n : Int) : Prop := 0 ≤ n ∧ n ≤ m ∧ (∀ j, 1 ≤ j → j ≤ n → F j ≤ L j) ∧ (n < m → L (n + 1) < F (n + 1))
theorem DeepN.same {m : Nat} {F L : Int → Int} {n k : Int} (h : DeepN m F L n) (g : DeepN m F L k) : n = k := by
  obtain ⟨h1, h2, h3, h4⟩ := h
  obtain ⟨g1, g2, g3, g4⟩ := g
  rcases Int.lt_trichotomy n k with e | e | e
  · have := h4 (by omega)
    have := g3 (n + 1) (by omega) (by omega)
    omega
  · exact e
  · have := g4 (by omega)
    have := h3 (k + 1) (by omega) (by omega)
    omega
section
variable {a0 : Nat} {a1 a2 : Nat → Int} {a3 a4 : Int} {a5 : Nat} {a6 a7 : Nat → Int} {a8 a9 a10 a11 : Int} {c9 c10 c11 c12 : Nat → Int}
/-- The first and the last shift of the j-th step. -/
def StF (a0 : Nat) (a1 a2 : Nat → Int) (a3 a4 : Int) (a5 : Nat) (a6 a7 : Nat → Int) (a8 a9 a10 a11 : Int) (j : Int) : Int := Fst a10 a11 (Th a1) (Th a6) a3 a8 ((a0 : Int) - min j a0) (j - min j a0) (min j (a0 : Int)).toNat
def StL (a0 : Nat) (a1 a2 : Nat → Int) (a3 a4 : Int) (a5 : Nat) (a6 a7 : Nat → Int) (a8 a9 a10 a11 : Int) (j : Int) : Int := Lst a10 a11 (Th a2) (Th a7) a4 a9 ((a0 : Int) - min j a0) (j - min j a0) (min j (a0 : Int)).toNat
/-- What Deep counts. -/
def DpN (a0 : Nat) (a1 a2 : Nat → Int) (a3 a4 : Int) (a5 : Nat) (a6 a7 : Nat → Int) (a8 a9 a10 a11 : Int) (n : Int) : Prop := DeepN a5 (StF a0 a1 a2 a3 a4 a5 a6 a7 a8 a9 a10 a11) (StL a0 a1 a2 a3 a4 a5 a6 a7 a8 a9 a10 a11) n
def AdsE (a0 : Nat) (a1 a2 : Nat → Int) (a3 a4 : Int) (a5 : Nat) (a6 a7 : Nat → Int) (a8 a9 a10 a11 : Int) : ades0R → Prop
  | .r0 q => DpN a0 a1 a2 a3 a4 a5 a6 a7 a8 a9 a10 a11 q
  | .r1 q => DpN a0 a1 a2 a3 a4 a5 a6 a7 a8 a9 a10 a11 q
theorem ades_run (hs : ThOk a0 a1 a2 a3 a4) (hn : ThOk a5 a6 a7 a8 a9) (hd : -200000 ≤ a10 ∧ a10 ≤ a11 ∧ a11 ≤ 200000) (e1 : ∀ i, i < a0 → c9 i = Th a1 i ∧ c10 i = Th a2 i) (e2 : ∀ i, i < a5 → c11 i = Th a6 i ∧ c12 i = Th a7 i) :
    ∃ n v, AF.run (ades0A a0 a1 a2 a3 a4 a5 a6 a7 a8 a9 a10 a11 a10 a11 a0 a3 a4 a5 a8 a9 c9 c10 c11 c12) n = some v ∧ AdsE a0 a1 a2 a3 a4 a5 a6 a7 a8 a9 a10 a11 v := by
  have q1 := hs.few
  have q2 := hn.few
  have q3 := hs.some
  refine AF.run_sat (E := AdsE a0 a1 a2 a3 a4 a5 a6 a7 a8 a9 a10 a11) (Inv := fun (b : ades0N) => match b with | .n0 q0 q1 => q1 = q0 ∧ 0 ≤ q0 ∧ q0 ≤ a5 ∧ ∀ j, 1 ≤ j → j ≤ q0 → StF a0 a1 a2 a3 a4 a5 a6 a7 a8 a9 a10 a11 j ≤ StL a0 a1 a2 a3 a4 a5 a6 a7 a8 a9 a10 a11 j) (fun (b : ades0N) => match b with | .n0 q0 q1 => (a5 - q0).toNat) (fun _ => rfl) (fun a hI => ?_) ?_
  · cases a with
    | n0 q0 q1 =>
      obtain ⟨rfl, g0, g1, g2⟩ := hI
      show DD.sat _ _ (ades0D a0 a1 a2 a3 a4 a5 a6 a7 a8 a9 a10 a11 a10 a11 a0 a3 a4 a5 a8 a9 c9 c10 c11 c12 (.n0 q1 q1))
      unfold ades0D
      by_cases hp : q1 < a5
      · obtain ⟨hf, hv⟩ := ash_th (c9 := c9) (c10 := c10) (c11 := c11) (c12 := c12) (a10 := (a0 : Int) - min (q1 + 1) a0) (a11 := q1 + 1 - min (q1 + 1) a0) (a12 := min (q1 + 1) (a0 : Int)) (a13 := a10) (a14 := a11) hs hn ⟨by omega, by omega⟩ ⟨by omega, by omega⟩ (by omega) hd e1 e2
        obtain ⟨r1, r2⟩ := fl_rng (a10 := (a0 : Int) - min (q1 + 1) a0) (a11 := q1 + 1 - min (q1 + 1) a0) (a12 := min (q1 + 1) (a0 : Int)) (a13 := a10) (a14 := a11) hs hn ⟨by omega, by omega⟩ ⟨by omega, by omega⟩ (by omega) hd
        obtain ⟨F, hF⟩ : ∃ F, F = StF a0 a1 a2 a3 a4 a5 a6 a7 a8 a9 a10 a11 (q1 + 1) := ⟨_, rfl⟩
        obtain ⟨L, hL⟩ : ∃ L, L = StL a0 a1 a2 a3 a4 a5 a6 a7 a8 a9 a10 a11 (q1 + 1) := ⟨_, rfl⟩
        have hf' : AF.fin (ashA a10 a11 a0 (fun i => c9 i) (fun i => c10 i) a3 a4 a5 (fun i => c11 i) (fun i => c12 i) a8 a9 ((a0 : Int) - min (q1 + 1) a0) (q1 + 1 - min (q1 + 1) a0) (min (q1 + 1) (a0 : Int))) = true := hf
        have hv' : AF.val (ashA a10 a11 a0 (fun i => c9 i) (fun i => c10 i) a3 a4 a5 (fun i => c11 i) (fun i => c12 i) a8 a9 ((a0 : Int) - min (q1 + 1) a0) (q1 + 1 - min (q1 + 1) a0) (min (q1 + 1) (a0 : Int))) = (F, L) := by rw [hF, hL]; exact hv
        have rF : -30000000000 ≤ F ∧ F ≤ 30000000000 := by rw [hF]; exact r1
        have rL : -30000000000 ≤ L ∧ L ≤ 30000000000 := by rw [hL]; exact r2
        have s1 : Ar.run .add .i64 q1 1 = q1 + 1 := arAdd (by omega)
        have s2 : Ar.run .mn .i64 (q1 + 1) (a0 : Int) = min (q1 + 1) (a0 : Int) := arMn
        have s3 : Ar.run .sub .i64 (a0 : Int) (min (q1 + 1) (a0 : Int)) = a0 - min (q1 + 1) (a0 : Int) := arSub (by omega)
        have s4 : Ar.run .sub .i64 (q1 + 1) (min (q1 + 1) (a0 : Int)) = q1 + 1 - min (q1 + 1) (a0 : Int) := arSub (by omega)
        have s5 : Ar.run .sub .i64 L F = L - F := arSub (by omega)
        simp only [DD.sat, Nat.zero_add, cmLss, cmLssF, cmLeq, cmLeqF, cmGtr, cmGtrF, cmGeq, cmGeqF, cmEql, cmEqlF, cmNeq, cmNeqF, decide_eq_true_eq, Bool.not_eq_true', Bool.not_eq_false', s1, s2, s3, s4, hv', s5]
        refine ⟨fun _ => ⟨Nat.le_refl _, shape_ok fun i _ => rfl, Nat.le_refl _, shape_ok fun i _ => rfl, hf', fun h => ?_, fun h => ⟨⟨trivial, by omega, by omega, fun j j1 j2 => ?_⟩, by omega⟩⟩, fun h => by omega⟩
        · exact ⟨g0, g1, g2, fun _ => by rw [← hF, ← hL]; omega⟩
        · rcases Int.lt_or_le j (q1 + 1) with k | k
          · exact g2 j j1 (by omega)
          · obtain rfl : j = q1 + 1 := by omega
            rw [← hF, ← hL]; omega
      · simp only [DD.sat, Nat.zero_add, cmLss, cmLssF, cmLeq, cmLeqF, cmGtr, cmGtrF, cmGeq, cmGeqF, cmEql, cmEqlF, cmNeq, cmNeqF, decide_eq_true_eq, Bool.not_eq_true', Bool.not_eq_false']
        exact ⟨fun h => absurd h hp, fun _ => ⟨g0, g1, g2, fun h => absurd h hp⟩⟩
  · show (0 : Int) = 0 ∧ (0 : Int) ≤ 0 ∧ (0 : Int) ≤ a5 ∧ ∀ j : Int, 1 ≤ j → j ≤ 0 → StF a0 a1 a2 a3 a4 a5 a6 a7 a8 a9 a10 a11 j ≤ StL a0 a1 a2 a3 a4 a5 a6 a7 a8 a9 a10 a11 j
    exact ⟨rfl, by omega, by omega, fun j h1 h2 => by omega⟩
/-- What Deep yields. -/
def DeE (a0 : Nat) (a1 a2 : Nat → Int) (a3 a4 : Int) (a5 : Nat) (a6 a7 : Nat → Int) (a8 a9 a10 a11 : Int) (v : Int × Int) : Prop :=
  ∃ e, TwE a0 a1 a2 a3 a4 a5 a6 a7 a8 a9 a10 a11 e ∧ (e ≠ 0 ∧ v = (0, e) ∨ e = 0 ∧ ∃ n, DpN a0 a1 a2 a3 a4 a5 a6 a7 a8 a9 a10 a11 n ∧ v = (n, 0))
theorem ade_mono : AF.Mono (adeA a0 a1 a2 a3 a4 a5 a6 a7 a8 a9 a10 a11) := AF.mono_map fun a => by
  cases a with
  | n0 p0 p1 p2 p3 p4 p5 p6 p7 p8 p9 p10 p11 => exact .inr ⟨_, _, ades0A a0 a1 a2 a3 a4 a5 a6 a7 a8 a9 a10 a11 p0 p1 p2 p3 p4 p5 p6 p7 p8 p9 p10 p11, adeRg0 a0 a1 a2 a3 a4 a5 a6 a7 a8 a9 a10 a11 p0 p1 p2 p3 p4 p5 p6 p7 p8 p9 p10 p11, AF.mono_none fun _ => rfl, rfl⟩
def AdI (a0 : Nat) (a1 a2 : Nat → Int) (a3 a4 : Int) (a5 : Nat) (a6 a7 : Nat → Int) (a8 a9 a10 a11 : Int) : adeN → Prop
  | .n0 p0 p1 p2 p3 p4 p5 p6 p7 p8 p9 p10 p11 => TwE a0 a1 a2 a3 a4 a5 a6 a7 a8 a9 a10 a11 0 ∧ p0 = a10 ∧ p1 = a11 ∧ p2 = a0 ∧ p3 = a3 ∧ p4 = a4 ∧ p5 = a5 ∧ p6 = a8 ∧ p7 = a9 ∧ (∀ i, i < a0 → p8 i = Th a1 i ∧ p9 i = Th a2 i) ∧ (∀ i, i < a5 → p10 i = Th a6 i ∧ p11 i = Th a7 i)
theorem ade_val : AF.fin (adeA a0 a1 a2 a3 a4 a5 a6 a7 a8 a9 a10 a11) = true ∧ DeE a0 a1 a2 a3 a4 a5 a6 a7 a8 a9 a10 a11 (AF.val (adeA a0 a1 a2 a3 a4 a5 a6 a7 a8 a9 a10 a11)) := by
  refine AF.val_satR (E := DeE a0 a1 a2 a3 a4 a5 a6 a7 a8 a9 a10 a11) ade_mono (Inv := AdI a0 a1 a2 a3 a4 a5 a6 a7 a8 a9 a10 a11) (fun _ => 0) (fun a hI => ?_) ?_
  · cases a with
    | n0 p0 p1 p2 p3 p4 p5 p6 p7 p8 p9 p10 p11 =>
      obtain ⟨t, rfl, rfl, rfl, rfl, rfl, rfl, rfl, rfl, w9, w11⟩ := hI
      obtain ⟨hs, hn, hd⟩ := t.ok rfl
      obtain ⟨n, v, hr, hv⟩ := ades_run hs hn hd w9 w11
      refine .inr ⟨_, n, adeRg0 p2 a1 a2 p3 p4 p5 a6 a7 p6 p7 p0 p1 p0 p1 p2 p3 p4 p5 p6 p7 p8 p9 p10 p11 v, rfl, ?_, ?_⟩
      · show Option.map _ (AF.run (ades0A p2 a1 a2 p3 p4 p5 a6 a7 p6 p7 p0 p1 p0 p1 p2 p3 p4 p5 p6 p7 p8 p9 p10 p11) n) = _
        rw [hr]; rfl
      · cases v with
        | r0 q => exact ⟨0, t, .inr ⟨rfl, q, hv, rfl⟩⟩
        | r1 q => exact ⟨0, t, .inr ⟨rfl, q, hv, rfl⟩⟩
  · show DD.sat _ _ (adeD0 a0 a1 a2 a3 a4 a5 a6 a7 a8 a9 a10 a11)
    obtain ⟨mf, mv⟩ := ame_val (a0 := a0) (a1 := a1) (a2 := a2) (a3 := a3) (a4 := a4) (a5 := a5) (a6 := a6) (a7 := a7) (a8 := a8) (a9 := a9) (a10 := a10) (a11 := a11)
    obtain ⟨M, hM⟩ : ∃ M, AF.val (ameA a0 (fun i => a1 i) (fun i => a2 i) a3 a4 a5 (fun i => a6 i) (fun i => a7 i) a8 a9 a10 a11) = M := ⟨_, rfl⟩
    have mf' : AF.fin (ameA a0 (fun i => a1 i) (fun i => a2 i) a3 a4 a5 (fun i => a6 i) (fun i => a7 i) a8 a9 a10 a11) = true := mf
    have mv' : MeE a0 a1 a2 a3 a4 a5 a6 a7 a8 a9 a10 a11 M := by rw [← hM]; exact mv
    obtain ⟨t, mw⟩ := mv'
    unfold adeD0
    simp only [DD.sat, Nat.zero_add, cmLss, cmLssF, cmLeq, cmLeqF, cmGtr, cmGtrF, cmGeq, cmGeqF, cmEql, cmEqlF, cmNeq, cmNeqF, decide_eq_true_eq, Bool.not_eq_true', Bool.not_eq_false', hM]
    refine ⟨Nat.le_refl _, shape_ok fun i _ => rfl, Nat.le_refl _, shape_ok fun i _ => rfl, mf', fun h => ⟨_, t, .inl ⟨h, rfl⟩⟩, fun h => ?_⟩
    have h8 : amew8 M = 0 := by omega
    rw [h8] at t
    exact ⟨t, mw h8⟩
theorem frd_val (hs : ThOk a0 a1 a2 a3 a4) (hn : ThOk a5 a6 a7 a8 a9) (hd : -200000 ≤ a10 ∧ a10 ≤ a11 ∧ a11 ≤ 200000) : AF.fin (frdA a0 a1 a2 a3 a4 a5 a6 a7 a8 a9 a10 a11) = true ∧ DpN a0 a1 a2 a3 a4 a5 a6 a7 a8 a9 a10 a11 (AF.val (frdA a0 a1 a2 a3 a4 a5 a6 a7 a8 a9 a10 a11)) := by
  have q1 := hs.few
  have q2 := hn.few
  have q3 := hs.some
  refine AF.val_sat (E := fun (v : frdR) => DpN a0 a1 a2 a3 a4 a5 a6 a7 a8 a9 a10 a11 v) (Inv := fun (b : frdN) => match b with | .n0 p0 => 1 ≤ p0 ∧ p0 ≤ a5 + 1 ∧ ∀ j, 1 ≤ j → j < p0 → StF a0 a1 a2 a3 a4 a5 a6 a7 a8 a9 a10 a11 j ≤ StL a0 a1 a2 a3 a4 a5 a6 a7 a8 a9 a10 a11 j) (fun (b : frdN) => match b with | .n0 p0 => (a5 + 1 - p0).toNat) (fun _ => rfl) (fun a hI => ?_) ?_
  · cases a with
    | n0 p0 =>
      obtain ⟨g0, g1, g2⟩ := hI
      show DD.sat _ _ (frdD a0 a1 a2 a3 a4 a5 a6 a7 a8 a9 a10 a11 (.n0 p0))
      unfold frdD
      by_cases hp : p0 ≤ a5
      · obtain ⟨hf, hv⟩ := frs_val (a10 := (a0 : Int) - min p0 a0) (a11 := p0 - min p0 a0) (a12 := min p0 (a0 : Int)) (a13 := a10) (a14 := a11) hs hn ⟨by omega, by omega⟩ ⟨by omega, by omega⟩ (by omega) hd
        obtain ⟨F, hF⟩ : ∃ F, F = StF a0 a1 a2 a3 a4 a5 a6 a7 a8 a9 a10 a11 p0 := ⟨_, rfl⟩
        obtain ⟨L, hL⟩ : ∃ L, L = StL a0 a1 a2 a3 a4 a5 a6 a7 a8 a9 a10 a11 p0 := ⟨_, rfl⟩
        have hf' : AF.fin (frsA a0 (fun i => a1 i) (fun i => a2 i) a3 a4 a5 (fun i => a6 i) (fun i => a7 i) a8 a9 ((a0 : Int) - min p0 (a0 : Int)) (p0 - min p0 (a0 : Int)) (min p0 (a0 : Int)) a10 a11) = true := hf
        have hv' : AF.val (frsA a0 (fun i => a1 i) (fun i => a2 i) a3 a4 a5 (fun i => a6 i) (fun i => a7 i) a8 a9 ((a0 : Int) - min p0 (a0 : Int)) (p0 - min p0 (a0 : Int)) (min p0 (a0 : Int)) a10 a11) = (F, L) := by rw [hF, hL]; exact hv
        have s1 : Ar.run .add .i64 p0 1 = p0 + 1 := arAdd (by omega)
        have s2 : Ar.run .mn .i64 p0 (a0 : Int) = min p0 (a0 : Int) := arMn
        have s3 : Ar.run .sub .i64 (a0 : Int) (min p0 (a0 : Int)) = a0 - min p0 (a0 : Int) := arSub (by omega)
        have s4 : Ar.run .sub .i64 p0 (min p0 (a0 : Int)) = p0 - min p0 (a0 : Int) := arSub (by omega)
        have s5 : Ar.run .sub .i64 p0 1 = p0 - 1 := arSub (by omega)
        simp only [DD.sat, Nat.zero_add, cmLss, cmLssF, cmLeq, cmLeqF, cmGtr, cmGtrF, cmGeq, cmGeqF, cmEql, cmEqlF, cmNeq, cmNeqF, decide_eq_true_eq, Bool.not_eq_true', Bool.not_eq_false', s1, s2, s3, s4, hv', s5]
        refine ⟨fun _ => ⟨Nat.le_refl _, shape_ok fun i _ => rfl, Nat.le_refl _, shape_ok fun i _ => rfl, hf', fun h => ?_, fun h => ⟨⟨by omega, by omega, fun j j1 j2 => ?_⟩, by omega⟩⟩, fun h => by omega⟩
        · exact ⟨by omega, by omega, fun j j1 j2 => g2 j j1 (by omega), fun _ => by rw [show p0 - 1 + 1 = p0 by omega, ← hF, ← hL]; omega⟩
        · rcases Int.lt_or_le j p0 with k | k
          · exact g2 j j1 k
          · obtain rfl : j = p0 := by omega
            rw [← hF, ← hL]; omega
      · simp only [DD.sat, Nat.zero_add, cmLss, cmLssF, cmLeq, cmLeqF, cmGtr, cmGtrF, cmGeq, cmGeqF, cmEql, cmEqlF, cmNeq, cmNeqF, decide_eq_true_eq, Bool.not_eq_true', Bool.not_eq_false']
        exact ⟨fun h => absurd h hp, fun _ => ⟨by omega, by omega, fun j j1 j2 => g2 j j1 (by omega), fun h => absurd h (by omega)⟩⟩
  · show (1 : Int) ≤ 1 ∧ (1 : Int) ≤ a5 + 1 ∧ ∀ j : Int, 1 ≤ j → j < 1 → StF a0 a1 a2 a3 a4 a5 a6 a7 a8 a9 a10 a11 j ≤ StL a0 a1 a2 a3 a4 a5 a6 a7 a8 a9 a10 a11 j
    exact ⟨by omega, by omega, fun j h1 h2 => by omega⟩
end
end Go.Proofs.Ytjdldcmcjaaibaa.Cx

/- acme/acmelaw03.known returns true, in every world: by the evaluator. Made by tools/cxlaw.py. -/
namespace Go.Proofs.Ytjdldcmcjaaibaa.Cx
set_option maxRecDepth 100000
open Go Go.Proofs Go.RowKit
noncomputable def CxKn03C : Ctx := ctxOf Try.prog memo0
theorem CxKn03_run : isTrue (eval CxKn03C 1000 0 (.call 12 []) .empty) = true := by kernel_rfl
theorem CxKn03_known : KnownB Try.prog 12 := known_of try_ok memo0_ok (by kernel_rfl) CxKn03_run
end Go.Proofs.Ytjdldcmcjaaibaa.Cx

/- acme/acmelaw03.FitShifts as an automaton. Made by tools/cxauto.py. -/
namespace Go.Proofs.Ytjdldcmcjaaibaa.Cx
set_option linter.unusedVariables false
set_option linter.unusedSimpArgs false
set_option maxRecDepth 100000
open Go Go.Proofs Go.RowKit
noncomputable abbrev lshCode : Code := funcCode Try.f4
abbrev lshN := Empty
abbrev lshR := Bool
noncomputable def lshD0 (a0 : Nat) (a1 a2 : Nat → Int) (a3 a4 : Int) (a5 : Nat) (a6 a7 : Nat → Int) (a8 a9 a10 a11 a12 a13 a14 : Int) : DD (Lf lshN lshR) :=
 let z0 := decide (0 + a0 ≤ a0)
 let z1 := decide (0 + a5 ≤ a5)
 let z2 := fun i => [CV.int IntKind.i64 (IE.x (a1 (0 + (0 + i)))), CV.int IntKind.i64 (IE.x (a2 (0 + (0 + i))))]
 let z3 := ShapeOk [some IntKind.i64, some IntKind.i64] (tabOf a0 z2) z2
 let z4 := decide (a0 ≤ a0)
 let z5 := fun i => [CV.int IntKind.i64 (IE.x (a6 (0 + (0 + i)))), CV.int IntKind.i64 (IE.x (a7 (0 + (0 + i))))]
 let z6 := ShapeOk [some IntKind.i64, some IntKind.i64] (tabOf a5 z5) z5
 let z7 := decide (a5 ≤ a5)
 let z8 := fun i => a1 (0 + (0 + i))
 let z9 := fun i => a2 (0 + (0 + i))
 let z10 := fun i => a6 (0 + (0 + i))
 let z11 := fun i => a7 (0 + (0 + i))
 let z12 := asfA a0 z8 z9 a3 a4 a5 z10 z11 a8 a9 a10 a11 a12 a13 a14
 let z13 := adeA a0 z8 z9 a3 a4 a5 z10 z11 a8 a9 a13 a14
 let z14 := fun i => [CV.int IntKind.i64 (IE.x (a1 (0 + i))), CV.int IntKind.i64 (IE.x (a2 (0 + i)))]
 let z15 := ShapeOk [some IntKind.i64, some IntKind.i64] (tabOf a0 z14) z14
 let z16 := fun i => a1 (0 + i)
 let z17 := fun i => a2 (0 + i)
 let z18 := fsmA a0 z8 z9 a3 a4 a0 z16 z17 a3 a4
 let z19 := fun i => [CV.int IntKind.i64 (IE.x (a6 (0 + i))), CV.int IntKind.i64 (IE.x (a7 (0 + i)))]
 let z20 := ShapeOk [some IntKind.i64, some IntKind.i64] (tabOf a5 z19) z19
 let z21 := fun i => a6 (0 + i)
 let z22 := fun i => a7 (0 + i)
 let z23 := fsmA a5 z10 z11 a8 a9 a5 z21 z22 a8 a9
 let z24 := frtA a0 z16 z17 a3 a4 a5 z21 z22 a8 a9 a13 a14
 let z25 := AF.val z24
 let z26 := AF.val z12
 let z27 := Prod.snd z26
 let z28 := Prod.snd z27
 let z29 := AF.val z13
 let z30 := Prod.snd z29
 let z31 := Prod.fst z26
 let z32 := Cm.run .eql z31 0
 let z33 := Prod.fst z27
 let z34 := Cm.run .eql z33 0
 let z35 := Prod.fst z29
 let z36 := frdA a0 z16 z17 a3 a4 a5 z21 z22 a8 a9 a13 a14
 let z37 := Cm.run .eql z28 7
 let z38 := frsA a0 z16 z17 a3 a4 a5 z21 z22 a8 a9 a10 a11 a12 a13 a14
 let z39 := AF.val z38
 let z40 := Prod.fst z39
 let z41 := Prod.snd z39
 .ask (Cm.run .gtr ((↑a0 : Int)) 65)
   (.leaf (.done true []))
   (.ask (Cm.run .gtr ((↑a5 : Int)) 65)
   (.leaf (.done true []))
   (.must z0
   (.must (decide (a0 ≤ 10000))
   (.must z1
   (.must (decide (a5 ≤ 10000))
   (.must z0
   (.must z3
   (.must z4
   (.must z1
   (.must z6
   (.must z7
   (.must (AF.fin z12)
   (.must z0
   (.must z3
   (.must z4
   (.must z1
   (.must z6
   (.must z7
   (.must (AF.fin z13)
   (.must z0
   (.must z3
   (.must z4
   (.must z0
   (.must z15
   (.must (AF.fin z18)
   (.ask (!AF.val z18)
   (.leaf (.done false []))
   (.must z1
   (.must z6
   (.must z7
   (.must z1
   (.must z20
   (.must (AF.fin z23)
   (.ask (!AF.val z23)
   (.leaf (.done false []))
   (.must z0
   (.must z15
   (.must z1
   (.must z20
   (.must (AF.fin z24)
   (.ask (Cm.run .neq z25 0)
   (.ask (Cm.run .eql z28 z25)
   (.ask (Cm.run .eql z30 z25)
   (.ask z32
   (.ask z34
   (.ask (Cm.run .eql z35 0)
   (.leaf (.done true []))
   (.leaf (.done false [])))
   (.leaf (.done false [])))
   (.leaf (.done false [])))
   (.leaf (.done false [])))
   (.leaf (.done false [])))
   (.ask (Cm.run .neq z30 0)
   (.leaf (.done false []))
   (.must z0
   (.must z15
   (.must z1
   (.must z20
   (.must (AF.fin z36)
   (.ask (Cm.run .neq z35 (AF.val z36))
   (.leaf (.done false []))
   (.ask (Cm.run .lss a12 1)
   (.ask z37
   (.ask z32
   (.ask z34
   (.leaf (.done true []))
   (.leaf (.done false [])))
   (.leaf (.done false [])))
   (.leaf (.done false [])))
   (.ask (Cm.run .gtr a12 (↑a0 : Int))
   (.ask z37
   (.ask z32
   (.ask z34
   (.leaf (.done true []))
   (.leaf (.done false [])))
   (.leaf (.done false [])))
   (.leaf (.done false [])))
   (.ask (Cm.run .gtr a12 (↑a5 : Int))
   (.ask z37
   (.ask z32
   (.ask z34
   (.leaf (.done true []))
   (.leaf (.done false [])))
   (.leaf (.done false [])))
   (.leaf (.done false [])))
   (.ask (Cm.run .lss a10 0)
   (.ask z37
   (.ask z32
   (.ask z34
   (.leaf (.done true []))
   (.leaf (.done false [])))
   (.leaf (.done false [])))
   (.leaf (.done false [])))
   (.ask (Cm.run .gtr a10 (Ar.run .sub .i64 ((↑a0 : Int)) a12))
   (.ask z37
   (.ask z32
   (.ask z34
   (.leaf (.done true []))
   (.leaf (.done false [])))
   (.leaf (.done false [])))
   (.leaf (.done false [])))
   (.ask (Cm.run .lss a11 0)
   (.ask z37
   (.ask z32
   (.ask z34
   (.leaf (.done true []))
   (.leaf (.done false [])))
   (.leaf (.done false [])))
   (.leaf (.done false [])))
   (.ask (Cm.run .gtr a11 (Ar.run .sub .i64 ((↑a5 : Int)) a12))
   (.ask z37
   (.ask z32
   (.ask z34
   (.leaf (.done true []))
   (.leaf (.done false [])))
   (.leaf (.done false [])))
   (.leaf (.done false [])))
   (.must z0
   (.must z15
   (.must z1
   (.must z20
   (.must (AF.fin z38)
   (.ask (Cm.run .gtr z40 z41)
   (.ask (Cm.run .eql z28 9)
   (.ask z32
   (.ask z34
   (.leaf (.done true []))
   (.leaf (.done false [])))
   (.leaf (.done false [])))
   (.leaf (.done false [])))
   (.ask (Cm.run .eql z28 0)
   (.ask (Cm.run .eql z31 z40)
   (.ask (Cm.run .eql z33 z41)
   (.leaf (.done true []))
   (.leaf (.done false [])))
   (.leaf (.done false [])))
   (.leaf (.done false []))))))))))))))))))))))))))))))))))))))))))))))))))))))))))))))

noncomputable def lshD (a0 : Nat) (a1 a2 : Nat → Int) (a3 a4 : Int) (a5 : Nat) (a6 a7 : Nat → Int) (a8 a9 a10 a11 a12 a13 a14 : Int) : lshN → DD (Lf lshN lshR) := fun a => nomatch a
noncomputable def lshA (a0 : Nat) (a1 a2 : Nat → Int) (a3 a4 : Int) (a5 : Nat) (a6 a7 : Nat → Int) (a8 a9 a10 a11 a12 a13 a14 : Int) : AF lshN lshR where
  code := lshCode
  base := 2
  nt := 193
  m := 400
  un := []
  W := []
  h0 := [(0, ⟨.arg a0 2 (fun i => [.int .i64 (.x (a1 i)), .int .i64 (.x (a2 i))]) (fun _ => ⟨rfl, rfl⟩), 2, true, none⟩), (1, ⟨.arg a5 2 (fun i => [.int .i64 (.x (a6 i)), .int .i64 (.x (a7 i))]) (fun _ => ⟨rfl, rfl⟩), 2, true, none⟩)]
  args := [.agg [.sla 0 2 0 a0, .int .i64 (.x a3), .int .i64 (.x a4)], .agg [.sla 1 2 0 a5, .int .i64 (.x a8), .int .i64 (.x a9)], .agg [.int .i64 (.x a10), .int .i64 (.x a11), .int .i64 (.x a12), .int .i64 (.x a13), .int .i64 (.x a14)]]
  res := (Try.f4).results.toList
  path := fun a => nomatch a
  pd := fun a => nomatch a
  D0 := lshD0 a0 a1 a2 a3 a4 a5 a6 a7 a8 a9 a10 a11 a12 a13 a14
  D := lshD a0 a1 a2 a3 a4 a5 a6 a7 a8 a9 a10 a11 a12 a13 a14
  rc := (fun v => .bool (.x v))
  rh := (fun v => [])
  rn := (fun v => 2)
  rx := (fun v => [])
  rgo := (fun _ => none)
theorem lshstart (a0 : Nat) (a1 a2 : Nat → Int) (a3 a4 : Int) (a5 : Nat) (a6 a7 : Nat → Int) (a8 a9 a10 a11 a12 a13 a14 : Int) : AF.edgeOk (lshA a0 a1 a2 a3 a4 a5 a6 a7 a8 a9 a10 a11 a12 a13 a14) (ctxOf Try.prog memo0) (lshD0 a0 a1 a2 a3 a4 a5 a6 a7 a8 a9 a10 a11 a12 a13 a14) (AF.run0 (lshA a0 a1 a2 a3 a4 a5 a6 a7 a8 a9 a10 a11 a12 a13 a14) (ctxOf Try.prog (memoS 24 adeP adeF adeW adeH 2 (memoS 23 asfP asfF asfW asfH 2 (memoS 26 frdP frdF frdW frdH 2 (memoS 27 frsP frsF frsW frsH 2 (memoS 25 frtP frtF frtW frtH 2 (memoS 18 fsmP fsmF fsmW fsmH 2 (memoB [12]))))))))) := by unfold AF.edgeOk; kernel_rfl
theorem lshok (a0 : Nat) (a1 a2 : Nat → Int) (a3 a4 : Int) (a5 : Nat) (a6 a7 : Nat → Int) (a8 a9 a10 a11 a12 a13 a14 : Int) : (lshA a0 a1 a2 a3 a4 a5 a6 a7 a8 a9 a10 a11 a12 a13 a14).Ok Try.prog (ctxOf Try.prog (memoS 24 adeP adeF adeW adeH 2 (memoS 23 asfP asfF asfW asfH 2 (memoS 26 frdP frdF frdW frdH 2 (memoS 27 frsP frsF frsW frsH 2 (memoS 25 frtP frtF frtW frtH 2 (memoS 18 fsmP fsmF fsmW fsmH 2 (memoB [12])))))))) where
  regs := by kernel_rfl
  h0 := by kernel_rfl
  start := lshstart a0 a1 a2 a3 a4 a5 a6 a7 a8 a9 a10 a11 a12 a13 a14
  node := fun a _ => nomatch a
  pd := fun a => nomatch a
  le := fun a => nomatch a
  rd := fun v => ⟨⟨fa_nil, fa_nil, fa_nil, rfl⟩, rfl⟩
  wb := rfl
theorem lshhR {ρ : Env} (a0 : Nat) (a1 a2 : Nat → Int) (a3 a4 : Int) (a5 : Nat) (a6 a7 : Nat → Int) (a8 a9 a10 a11 a12 a13 a14 : Int) (hM : MemoOk Try.prog (ctxOf Try.prog (memoS 24 adeP adeF adeW adeH 2 (memoS 23 asfP asfF asfW asfH 2 (memoS 26 frdP frdF frdW frdH 2 (memoS 27 frsP frsF frsW frsH 2 (memoS 25 frtP frtF frtW frtH 2 (memoS 18 fsmP fsmF fsmW fsmH 2 (memoB [12])))))))) ρ) : ∀ X a q n D, FxOk ρ X → X.base = (lshA a0 a1 a2 a3 a4 a5 a6 a7 a8 a9 a10 a11 a12 a13 a14).base → X.nt = (lshA a0 a1 a2 a3 a4 a5 a6 a7 a8 a9 a10 a11 a12 a13 a14).nt → X.W = (lshA a0 a1 a2 a3 a4 a5 a6 a7 a8 a9 a10 a11 a12 a13 a14).W → (lshA a0 a1 a2 a3 a4 a5 a6 a7 a8 a9 a10 a11 a12 a13 a14).rgo a = some q → q n = some D → (lshA a0 a1 a2 a3 a4 a5 a6 a7 a8 a9 a10 a11 a12 a13 a14).RangeOk Try.prog ρ X a D := AF.noRange rfl
theorem lshctr {ρ : Env} (a0 : Nat) (a1 a2 : Nat → Int) (a3 a4 : Int) (a5 : Nat) (a6 a7 : Nat → Int) (a8 a9 a10 a11 a12 a13 a14 : Int) {n : Nat} {v : lshR} (hM : MemoOk Try.prog (ctxOf Try.prog (memoS 24 adeP adeF adeW adeH 2 (memoS 23 asfP asfF asfW asfH 2 (memoS 26 frdP frdF frdW frdH 2 (memoS 27 frsP frsF frsW frsH 2 (memoS 25 frtP frtF frtW frtH 2 (memoS 18 fsmP fsmF fsmW fsmH 2 (memoB [12])))))))) ρ) (hv : (lshA a0 a1 a2 a3 a4 a5 a6 a7 a8 a9 a10 a11 a12 a13 a14).run n = some v) :
    Ctr Try.prog ρ 4 (lshA a0 a1 a2 a3 a4 a5 a6 a7 a8 a9 a10 a11 a12 a13 a14).args (lshA a0 a1 a2 a3 a4 a5 a6 a7 a8 a9 a10 a11 a12 a13 a14).H0 (lshA a0 a1 a2 a3 a4 a5 a6 a7 a8 a9 a10 a11 a12 a13 a14).base (lshA a0 a1 a2 a3 a4 a5 a6 a7 a8 a9 a10 a11 a12 a13 a14).W ((lshA a0 a1 a2 a3 a4 a5 a6 a7 a8 a9 a10 a11 a12 a13 a14).rc v) (putH (lshA a0 a1 a2 a3 a4 a5 a6 a7 a8 a9 a10 a11 a12 a13 a14).H0 ((lshA a0 a1 a2 a3 a4 a5 a6 a7 a8 a9 a10 a11 a12 a13 a14).rh v ++ (lshA a0 a1 a2 a3 a4 a5 a6 a7 a8 a9 a10 a11 a12 a13 a14).rx v)) ((lshA a0 a1 a2 a3 a4 a5 a6 a7 a8 a9 a10 a11 a12 a13 a14).rn v) :=
  AF.ctr try_ok hM (lshok a0 a1 a2 a3 a4 a5 a6 a7 a8 a9 a10 a11 a12 a13 a14) (fn := Try.f4) Try.func4 rfl rfl (Nat.le_of_ble_eq_true rfl) rfl (lshhR a0 a1 a2 a3 a4 a5 a6 a7 a8 a9 a10 a11 a12 a13 a14 hM) hv
theorem lshmem {ρ : Env} : MemoOk Try.prog (ctxOf Try.prog (memoS 24 adeP adeF adeW adeH 2 (memoS 23 asfP asfF asfW asfH 2 (memoS 26 frdP frdF frdW frdH 2 (memoS 27 frsP frsF frsW frsH 2 (memoS 25 frtP frtF frtW frtH 2 (memoS 18 fsmP fsmF fsmW fsmH 2 (memoB [12])))))))) ρ := (memoS_ok (adeknown ademem) (memoS_ok (asfknown asfmem) (memoS_ok (frdknown frdmem) (memoS_ok (frsknown frsmem) (memoS_ok (frtknown frtmem) (memoS_ok (fsmknown fsmmem) (memoB_ok (fun f hf => by
    simp only [List.mem_cons, List.not_mem_nil, or_false] at hf
    subst hf
    exact CxKn03_known))))))))
abbrev lshP : List AQ := [.agg [.rows [some .i64, some .i64], .int .i64, .int .i64], .agg [.rows [some .i64, some .i64], .int .i64, .int .i64], .agg [.int .i64, .int .i64, .int .i64, .int .i64, .int .i64]]
noncomputable def lshF (v : AW) : AF lshN lshR := lshA (v.t.getD 0 .none).n ((v.t.getD 0 .none).c 0) ((v.t.getD 0 .none).c 1) (v.i.getD 0 0) (v.i.getD 1 0) (v.t.getD 1 .none).n ((v.t.getD 1 .none).c 0) ((v.t.getD 1 .none).c 1) (v.i.getD 2 0) (v.i.getD 3 0) (v.i.getD 4 0) (v.i.getD 5 0) (v.i.getD 6 0) (v.i.getD 7 0) (v.i.getD 8 0)
noncomputable def lshW : lshR → CV := fun v => .bool (.x v)
noncomputable def lshH : lshR → List (Nat × Blk) := fun v => []
instance : Inhabited lshR := ⟨false⟩
theorem lshknown {ρ : Env} (hM : MemoOk Try.prog (ctxOf Try.prog (memoS 24 adeP adeF adeW adeH 2 (memoS 23 asfP asfF asfW asfH 2 (memoS 26 frdP frdF frdW frdH 2 (memoS 27 frsP frsF frsW frsH 2 (memoS 25 frtP frtF frtW frtH 2 (memoS 18 fsmP fsmF fsmW fsmH 2 (memoB [12])))))))) ρ) : KnownS Try.prog ρ 4 lshP lshF lshW lshH 2 where
  fn := ⟨Try.f4, Try.func4, rfl⟩
  le := Nat.le_of_ble_eq_true rfl
  full := fun r => rfl
  rg := fun r => rfl
  hg := fun r => fa_nil
  ctr := fun v n r h => lshctr (v.t.getD 0 .none).n ((v.t.getD 0 .none).c 0) ((v.t.getD 0 .none).c 1) (v.i.getD 0 0) (v.i.getD 1 0) (v.t.getD 1 .none).n ((v.t.getD 1 .none).c 0) ((v.t.getD 1 .none).c 1) (v.i.getD 2 0) (v.i.getD 3 0) (v.i.getD 4 0) (v.i.getD 5 0) (v.i.getD 6 0) (v.i.getD 7 0) (v.i.getD 8 0) hM h
end Go.Proofs.Ytjdldcmcjaaibaa.Cx

/- FitShifts: the law's run. -/
namespace Go.Proofs.Ytjdldcmcjaaibaa.Cx
set_option linter.unusedVariables false
set_option linter.unusedSimpArgs false
set_option maxRecDepth 100000
set_option maxHeartbeats 4000000
open Go Go.RowKit
theorem lsh_sat (a0 : Nat) (a1 a2 : Nat → Int) (a3 a4 : Int) (a5 : Nat) (a6 a7 : Nat → Int) (a8 a9 a10 a11 a12 a13 a14 : Int) (h12 : -9223372036854775808 ≤ a12 ∧ a12 ≤ 9223372036854775807) : DD.sat (fun _ => False) (fun v => v = true) (lshD0 a0 a1 a2 a3 a4 a5 a6 a7 a8 a9 a10 a11 a12 a13 a14) := by
  by_cases h65 : a0 > 65 ∨ a5 > 65
  · unfold lshD0
    simp only [DD.sat, cmGtr, cmGtrF]
    exact ⟨fun _ => trivial, fun _ => ⟨fun _ => trivial, fun _ => by omega⟩⟩
  obtain ⟨sf1, sv1⟩ := same_val (a0 := a0) (a1 := a1) (a2 := a2) (a3 := a3) (a4 := a4) (a5 := a0) (a6 := a1) (a7 := a2) (a8 := a3) (a9 := a4) rfl rfl rfl (fun _ _ => rfl) (fun _ _ => rfl) (by omega)
  obtain ⟨sf2, sv2⟩ := same_val (a0 := a5) (a1 := a6) (a2 := a7) (a3 := a8) (a4 := a9) (a5 := a5) (a6 := a6) (a7 := a7) (a8 := a8) (a9 := a9) rfl rfl rfl (fun _ _ => rfl) (fun _ _ => rfl) (by omega)
  obtain ⟨tf, t3⟩ := frt_val (a0 := a0) (a1 := a1) (a2 := a2) (a3 := a3) (a4 := a4) (a5 := a5) (a6 := a6) (a7 := a7) (a8 := a8) (a9 := a9) (a10 := a13) (a11 := a14)
  obtain ⟨af, e1, t1, hA⟩ := asf_val (a0 := a0) (a1 := a1) (a2 := a2) (a3 := a3) (a4 := a4) (a5 := a5) (a6 := a6) (a7 := a7) (a8 := a8) (a9 := a9) (a10 := a10) (a11 := a11) (a13 := a13) (a14 := a14) h12
  obtain ⟨df, e2, t2, hB⟩ := ade_val (a0 := a0) (a1 := a1) (a2 := a2) (a3 := a3) (a4 := a4) (a5 := a5) (a6 := a6) (a7 := a7) (a8 := a8) (a9 := a9) (a10 := a13) (a11 := a14)
  obtain ⟨x, hx⟩ : ∃ x : Int, AF.val (frtA a0 (fun i => a1 i) (fun i => a2 i) a3 a4 a5 (fun i => a6 i) (fun i => a7 i) a8 a9 a13 a14) = x := ⟨_, rfl⟩
  have t3 : TwE a0 a1 a2 a3 a4 a5 a6 a7 a8 a9 a13 a14 x := by rw [← hx]; exact t3
  obtain rfl := t1.same t3
  obtain rfl := t2.same t3
  have sf1' : AF.fin (fsmA a0 (fun i => a1 i) (fun i => a2 i) a3 a4 a0 (fun i => a1 i) (fun i => a2 i) a3 a4) = true := sf1
  have sv1' : AF.val (fsmA a0 (fun i => a1 i) (fun i => a2 i) a3 a4 a0 (fun i => a1 i) (fun i => a2 i) a3 a4) = true := sv1
  have sf2' : AF.fin (fsmA a5 (fun i => a6 i) (fun i => a7 i) a8 a9 a5 (fun i => a6 i) (fun i => a7 i) a8 a9) = true := sf2
  have sv2' : AF.val (fsmA a5 (fun i => a6 i) (fun i => a7 i) a8 a9 a5 (fun i => a6 i) (fun i => a7 i) a8 a9) = true := sv2
  have tf' : AF.fin (frtA a0 (fun i => a1 i) (fun i => a2 i) a3 a4 a5 (fun i => a6 i) (fun i => a7 i) a8 a9 a13 a14) = true := tf
  have af' : AF.fin (asfA a0 (fun i => a1 i) (fun i => a2 i) a3 a4 a5 (fun i => a6 i) (fun i => a7 i) a8 a9 a10 a11 a12 a13 a14) = true := af
  have df' : AF.fin (adeA a0 (fun i => a1 i) (fun i => a2 i) a3 a4 a5 (fun i => a6 i) (fun i => a7 i) a8 a9 a13 a14) = true := df
  by_cases h0 : e2 = 0
  · have hA := hA.resolve_left fun h => h.1 h0
    have hB := hB.resolve_left fun h => h.1 h0
    obtain ⟨hs, hn, hd⟩ := t3.ok h0
    obtain ⟨_, n, hN, hB⟩ := hB
    obtain ⟨rf, rN⟩ := frd_val hs hn hd
    have rN : AF.val (frdA a0 (fun i => a1 i) (fun i => a2 i) a3 a4 a5 (fun i => a6 i) (fun i => a7 i) a8 a9 a13 a14) = n := rN.same hN
    have rf' : AF.fin (frdA a0 (fun i => a1 i) (fun i => a2 i) a3 a4 a5 (fun i => a6 i) (fun i => a7 i) a8 a9 a13 a14) = true := rf
    have hB' : AF.val (adeA a0 (fun i => a1 i) (fun i => a2 i) a3 a4 a5 (fun i => a6 i) (fun i => a7 i) a8 a9 a13 a14) = (n, 0) := hB
    obtain ⟨_, hA⟩ := hA
    have q1 := hs.few
    have q2 := hn.few
    by_cases hI : StIn a0 a5 a10 a11 a12
    · have hA := (hA.resolve_left fun h => h.1 hI).2
      obtain ⟨i1, i2, i3, i4, i5⟩ := id hI
      obtain ⟨F, L, hF, hL, hA⟩ := hA
      obtain ⟨ff, fv⟩ := frs_val hs hn ⟨i2, i3⟩ ⟨i4, i5⟩ i1 hd
      have ff' : AF.fin (frsA a0 (fun i => a1 i) (fun i => a2 i) a3 a4 a5 (fun i => a6 i) (fun i => a7 i) a8 a9 a10 a11 a12 a13 a14) = true := ff
      have fv' : AF.val (frsA a0 (fun i => a1 i) (fun i => a2 i) a3 a4 a5 (fun i => a6 i) (fun i => a7 i) a8 a9 a10 a11 a12 a13 a14) = (F, L) := by rw [hF, hL]; exact fv
      have s1 : Ar.run .sub .i64 (a0 : Int) a12 = a0 - a12 := arSub (by omega)
      have s2 : Ar.run .sub .i64 (a5 : Int) a12 = a5 - a12 := arSub (by omega)
      rcases hA with ⟨hlt, hA⟩ | ⟨hle, hA⟩
      · have hA' : AF.val (asfA a0 (fun i => a1 i) (fun i => a2 i) a3 a4 a5 (fun i => a6 i) (fun i => a7 i) a8 a9 a10 a11 a12 a13 a14) = (0, 0, 9) := hA
        unfold lshD0
        simp only [DD.sat, Nat.zero_add, cmLss, cmLssF, cmLeq, cmLeqF, cmGtr, cmGtrF, cmGeq, cmGeqF, cmEql, cmEqlF, cmNeq, cmNeqF, decide_eq_true_eq, Bool.not_eq_true', Bool.not_eq_false', hx, sv1', sv2', hA', hB', rN, fv', s1, s2]
        repeat' (first
      | exact Nat.le_refl _
      | exact shape_ok fun i _ => rfl
      | assumption
      | trivial
      | (intro hx; first | (exfalso; omega) | (exfalso; cases hx; done) | skip)
      | apply And.intro
      | omega)
      · have hA' : AF.val (asfA a0 (fun i => a1 i) (fun i => a2 i) a3 a4 a5 (fun i => a6 i) (fun i => a7 i) a8 a9 a10 a11 a12 a13 a14) = (F, L, 0) := hA
        unfold lshD0
        simp only [DD.sat, Nat.zero_add, cmLss, cmLssF, cmLeq, cmLeqF, cmGtr, cmGtrF, cmGeq, cmGeqF, cmEql, cmEqlF, cmNeq, cmNeqF, decide_eq_true_eq, Bool.not_eq_true', Bool.not_eq_false', hx, sv1', sv2', hA', hB', rN, fv', s1, s2]
        repeat' (first
      | exact Nat.le_refl _
      | exact shape_ok fun i _ => rfl
      | assumption
      | trivial
      | (intro hx; first | (exfalso; omega) | (exfalso; cases hx; done) | skip)
      | apply And.intro
      | omega)
    · have hA := (hA.resolve_right fun h => hI h.1).2
      have hA' : AF.val (asfA a0 (fun i => a1 i) (fun i => a2 i) a3 a4 a5 (fun i => a6 i) (fun i => a7 i) a8 a9 a10 a11 a12 a13 a14) = (0, 0, 7) := hA
      unfold StIn at hI
      by_cases h1 : 1 ≤ a12
      · have s1 : Ar.run .sub .i64 (a0 : Int) a12 = a0 - a12 := arSub (by omega)
        have s2 : Ar.run .sub .i64 (a5 : Int) a12 = a5 - a12 := arSub (by omega)
        unfold lshD0
        simp only [DD.sat, Nat.zero_add, cmLss, cmLssF, cmLeq, cmLeqF, cmGtr, cmGtrF, cmGeq, cmGeqF, cmEql, cmEqlF, cmNeq, cmNeqF, decide_eq_true_eq, Bool.not_eq_true', Bool.not_eq_false', hx, sv1', sv2', hA', hB', rN, s1, s2]
        repeat' (first
      | exact Nat.le_refl _
      | exact shape_ok fun i _ => rfl
      | assumption
      | trivial
      | (intro hx; first | (exfalso; omega) | (exfalso; cases hx; done) | skip)
      | apply And.intro
      | omega)
      · unfold lshD0
        simp only [DD.sat, Nat.zero_add, cmLss, cmLssF, cmLeq, cmLeqF, cmGtr, cmGtrF, cmGeq, cmGeqF, cmEql, cmEqlF, cmNeq, cmNeqF, decide_eq_true_eq, Bool.not_eq_true', Bool.not_eq_false', hx, sv1', sv2', hA', hB', rN]
        repeat' (first
      | exact Nat.le_refl _
      | exact shape_ok fun i _ => rfl
      | assumption
      | trivial
      | (intro hx; first | (exfalso; omega) | (exfalso; cases hx; done) | skip)
      | apply And.intro
      | omega)
  · have hA := (hA.resolve_right fun h => h0 h.1).2
    have hB := (hB.resolve_right fun h => h0 h.1).2
    have hA' : AF.val (asfA a0 (fun i => a1 i) (fun i => a2 i) a3 a4 a5 (fun i => a6 i) (fun i => a7 i) a8 a9 a10 a11 a12 a13 a14) = (0, 0, e2) := hA
    have hB' : AF.val (adeA a0 (fun i => a1 i) (fun i => a2 i) a3 a4 a5 (fun i => a6 i) (fun i => a7 i) a8 a9 a13 a14) = (0, e2) := hB
    unfold lshD0
    simp only [DD.sat, Nat.zero_add, cmLss, cmLssF, cmLeq, cmLeqF, cmGtr, cmGtrF, cmGeq, cmGeqF, cmEql, cmEqlF, cmNeq, cmNeqF, decide_eq_true_eq, Bool.not_eq_true', Bool.not_eq_false', hx, sv1', sv2', hA', hB']
    repeat' (first
      | exact Nat.le_refl _
      | exact shape_ok fun i _ => rfl
      | assumption
      | trivial
      | (intro hx; first | (exfalso; omega) | (exfalso; cases hx; done) | skip)
      | apply And.intro
      | omega)
theorem lsh_run (a0 : Nat) (a1 a2 : Nat → Int) (a3 a4 : Int) (a5 : Nat) (a6 a7 : Nat → Int) (a8 a9 a10 a11 a12 a13 a14 : Int) (_ : a0 ≤ 9223372036854775807) (_ : ∀ i, -9223372036854775808 ≤ a1 i ∧ a1 i ≤ 9223372036854775807) (_ : ∀ i, -9223372036854775808 ≤ a2 i ∧ a2 i ≤ 9223372036854775807) (_ : -9223372036854775808 ≤ a3 ∧ a3 ≤ 9223372036854775807) (_ : -9223372036854775808 ≤ a4 ∧ a4 ≤ 9223372036854775807) (_ : a5 ≤ 9223372036854775807) (_ : ∀ i, -9223372036854775808 ≤ a6 i ∧ a6 i ≤ 9223372036854775807) (_ : ∀ i, -9223372036854775808 ≤ a7 i ∧ a7 i ≤ 9223372036854775807) (_ : -9223372036854775808 ≤ a8 ∧ a8 ≤ 9223372036854775807) (_ : -9223372036854775808 ≤ a9 ∧ a9 ≤ 9223372036854775807) (_ : -9223372036854775808 ≤ a10 ∧ a10 ≤ 9223372036854775807) (_ : -9223372036854775808 ≤ a11 ∧ a11 ≤ 9223372036854775807) (h12 : -9223372036854775808 ≤ a12 ∧ a12 ≤ 9223372036854775807) (_ : -9223372036854775808 ≤ a13 ∧ a13 ≤ 9223372036854775807) (_ : -9223372036854775808 ≤ a14 ∧ a14 ≤ 9223372036854775807) :
    ∃ n v, AF.run (lshA a0 a1 a2 a3 a4 a5 a6 a7 a8 a9 a10 a11 a12 a13 a14) n = some v ∧ v = true := by
  refine AF.run_sat (E := fun v => v = true) (Inv := fun b => False) (fun b => 0) (fun b => rfl) (fun b h => h.elim) ?_
  exact lsh_sat a0 a1 a2 a3 a4 a5 a6 a7 a8 a9 a10 a11 a12 a13 a14 h12
end Go.Proofs.Ytjdldcmcjaaibaa.Cx

/- ARGUMENTS THAT ARE SLICES: opened as lists; the memory in which they lie as blocks that are read alone; a law's contract as its statement's walk. -/
namespace Go.Proofs.Ytjdldcmcjaaibaa.Cx
set_option linter.unusedSimpArgs false
set_option linter.unusedVariables false
open Go Go.RowKit Go.ChangeShapes Go.WideShapes Go.Deep Go.Proofs.Ytjdldcmcjaaibaa
/-! ## Such slices as blocks -/
section
variable {P : Program} {ρ : Env}
/-- Where a slice's rows lie. -/
noncomputable def locOf (w : World) (v : Value) (z : Nat) : Option Loc :=
  match v with
  | .slice (some a) (_ + 1) _ => match w.heap[a.block]? with
    | some (.cells c _ _) => some ⟨a.block, a.off, c.size, z⟩
    | _ => none
  | _ => none
theorem rows_rel {α : Type} {en : α → List Value} {ec : α → List CV} {d : α} (he : ∀ σ x, VRl ρ σ (ec x) (en x)) (σ : Mp) : ∀ (xs : List α) (n : Nat), n ≤ xs.length → VRl ρ σ (flatR (fun j => ec (xs.getD j d)) n) ((xs.take n).flatMap en)
  | xs, 0, _ => by simpa [flatR] using VRl.nil
  | xs, n + 1, h => by
    have ih := rows_rel (d := d) he σ xs n (by omega)
    rw [flatR, List.take_add_one, List.flatMap_append]
    refine ih.append ?_
    have hn : n < xs.length := by omega
    rw [List.getElem?_eq_getElem hn, List.getD_eq_getElem?_getD, List.getElem?_eq_getElem hn]
    simpa using he σ xs[n]
theorem SlR.rel {α : Type} {en : α → List Value} {ec : α → List CV} {d : α} {z : Nat} {w : World} {v : Value} {xs : List α} {σ : Mp} {b : Nat} (h : SlR en z w v xs) (hz : ∀ x, (en x).length = z) (he : ∀ σ x, VRl ρ σ (ec x) (en x))
    (hk : ∀ j, (ec (xs.getD j d)).length = z ∧ (ec (xs.getD j d)).all CV.flat = true) (hσ : σ b = locOf w v z) :
    VR ρ σ (.sla b z 0 xs.length) v ∧ ArgAt ρ w ⟨.arg xs.length z (fun j => ec (xs.getD j d)) hk, z, true, none⟩ (σ b) := by
  obtain ⟨a, cap, rfl, hcap, _, hx⟩ := h
  have hcl : Blk.cells ⟨.arg xs.length z (fun j => ec (xs.getD j d)) hk, z, true, none⟩ = flatR (fun j => ec (xs.getD j d)) xs.length := rfl
  have hlen := flatR_length (fun j => (hk j).1) xs.length
  rcases hx with rfl | ⟨bl, off, c, t, p, rfl, hh, hsz, hrow⟩
  · refine ⟨.sla0 _ _, rfl, rfl, rfl, fun l hl => ?_⟩
    rw [hσ] at hl
    simp [locOf] at hl
  · cases xs with
    | nil =>
      refine ⟨.sla0 _ _, rfl, rfl, rfl, fun l hl => ?_⟩
      rw [hσ] at hl
      simp [locOf] at hl
    | cons x xs =>
      have hlo : locOf w (.slice (some ⟨bl, off, none⟩) (x :: xs).length cap) z = some ⟨bl, off, c.size, z⟩ := by
        simp [locOf, hh]
      rw [hlo] at hσ
      refine ⟨?_, rfl, rfl, rfl, fun l hl => ?_⟩
      · have := VR.sla (ρ := ρ) (σ := σ) (b := b) (z := z) (o := 0) (n := (x :: xs).length) (c' := cap) hσ hcap
        simpa using this
      · rw [hσ] at hl
        obtain rfl := Option.some.inj hl
        refine ⟨c, t, p, hh, rfl, rfl, by rw [hcl, hlen]; exact hsz, fun τ => ?_⟩
        rw [hcl, hlen, hrow]
        have := rows_rel (ρ := ρ) (d := d) he τ (x :: xs) (x :: xs).length (Nat.le_refl _)
        rwa [List.take_of_length_le (Nat.le_refl _)] at this
/-- A law's contract, as its statement's walk. -/
theorem Ctr.law {f : Nat} {args : List CV} {h0 h1 : Tr Blk} {base n1 : Nat} {e : BE} {w : World} {σ : Mp} {args' : Array Value} (K : Ctr P ρ f args h0 base [] (.bool e) h1 n1) (he : e.den ρ = true) (ha : VRl ρ σ args args'.toList) (hH : HR ρ σ (curOf h0 base) w) (hN : ∀ b, base ≤ b → σ b = none) :
    Calls P f args' w fun e w' => e = .returned (.bool true) ∧ Below w.heap.size w w' := by
  refine ((K.run 0 σ w args' ha hH hN).calls (fun k d h => by cases h)).mono ?_
  rintro e' w' ⟨v, rfl, σ', h1, h2, h3, h4, h5⟩
  cases h2
  refine ⟨by rw [he], h4.os, h4.tape, h4.output, h4.size, fun k hk => h4.block k hk (fun b hb l hl => ?_)⟩
  rcases hb with hb | hb
  · cases hb
  · rw [hN b hb] at hl; cases hl
end
end Go.Proofs.Ytjdldcmcjaaibaa.Cx

/- ARGUMENTS OF LAWS, OPENED BY THEIR TYPES: integers, bools, structs, arrays, and slices of rows of integers and bools (a table each); the memory in which these lie. -/
namespace Go.Proofs.Ytjdldcmcjaaibaa.Cx
set_option linter.unusedSimpArgs false
set_option linter.unusedVariables false
open Go Go.RowKit Go.ChangeShapes Go.WideShapes Go.Deep Go.Proofs.Ytjdldcmcjaaibaa
/-! ## What the cells of a type are -/
inductive CK where
  | int (k : IntKind)
  | bool
  | tab (ks : List (Option IntKind))
def flatCK : List CK → Option (List (Option IntKind))
  | [] => some []
  | .int k :: l => match flatCK l with | some m => some (some k :: m) | none => none
  | .bool :: l => match flatCK l with | some m => some (none :: m) | none => none
  | .tab _ :: _ => none
def ckFs (P : Program) (f : TypeId → Option (List CK)) : Nat → List Field → Option (List CK)
  | _, [] => some []
  | off, fd :: l => match f fd.type with
    | some ks => bif Nat.beq fd.offset off && Nat.beq (P.cellsOf fd.type) ks.length then (match ckFs P f (off + ks.length) l with | some m => some (ks ++ m) | none => none) else none
    | none => none
def repL {α : Type} : Nat → List α → List α
  | 0, _ => []
  | n + 1, l => repL n l ++ l
def ckOf (P : Program) : Nat → TypeId → Option (List CK)
  | 0, _ => none
  | d + 1, t => match P.underlying t with
    | some (.int k) => some [.int k]
    | some .bool => some [.bool]
    | some (.struct fs) => match ckFs P (ckOf P d) 0 fs.toList with
      | some ks => bif Nat.beq (P.cellsOf t) ks.length then some ks else none
      | none => none
    | some (.array n e) => match ckOf P d e with
      | some ks => bif Nat.beq (P.cellsOf e) ks.length && Nat.beq (P.cellsOf t) (n * ks.length) then some (repL n ks) else none
      | none => none
    | some (.slice e) => match ckOf P d e with
      | some ks => match flatCK ks with
        | some l => bif Nat.beq (P.cellsOf e) l.length && Nat.blt 0 l.length then some [.tab l] else none
        | none => none
      | none => none
    | _ => none
/-! ## Rows -/
/-- The cells of a row: integers and bools, by their places. -/
structure RowV where
  c : Nat → Int
  g : Nat → Bool
def RowV.zero : RowV := ⟨fun _ => 0, fun _ => false⟩
def enV (r : RowV) : List (Option IntKind) → Nat → List Value
  | [], _ => []
  | some k :: ks, j => .int k (r.c j) :: enV r ks (j + 1)
  | none :: ks, j => .bool (r.g j) :: enV r ks (j + 1)
def okV (ks : List (Option IntKind)) (r : RowV) : Prop := ∀ j k, ks[j]? = some (some k) → (Lit.int k (r.c j)).wf = true
theorem enV_length (r : RowV) : ∀ (ks : List (Option IntKind)) (j : Nat), (enV r ks j).length = ks.length
  | [], _ => rfl
  | some k :: ks, j => congrArg Nat.succ (enV_length r ks (j + 1))
  | none :: ks, j => congrArg Nat.succ (enV_length r ks (j + 1))
/-- The cells of an argument: such, and slices of rows. -/
structure RowW where
  c : Nat → Int
  g : Nat → Bool
  s : Nat → Value
  t : Nat → List RowV
def enW (r : RowW) : List CK → Nat → List Value
  | [], _ => []
  | .int k :: ks, j => .int k (r.c j) :: enW r ks (j + 1)
  | .bool :: ks, j => .bool (r.g j) :: enW r ks (j + 1)
  | .tab _ :: ks, j => r.s j :: enW r ks (j + 1)
/-- A slice of such rows. -/
def SlT (ks : List (Option IntKind)) (w : World) (v : Value) (xs : List RowV) : Prop := SlR (fun r => enV r ks 0) ks.length w v xs ∧ ∀ x ∈ xs, okV ks x
def cellW (w : World) : CK → Value → Prop
  | .int k, v => ∃ z, v = .int k z ∧ (Lit.int k z).wf = true
  | .bool, v => ∃ b, v = .bool b
  | .tab ks, v => ∃ xs, SlT ks w v xs
inductive Mt (w : World) : List CK → List Value → Prop
  | nil : Mt w [] []
  | cons {k : CK} {v : Value} {ks : List CK} {vs : List Value} (h : cellW w k v) (t : Mt w ks vs) : Mt w (k :: ks) (v :: vs)
theorem Mt.append {w : World} {a b : List CK} {x y : List Value} (h : Mt w a x) (h' : Mt w b y) : Mt w (a ++ b) (x ++ y) := by
  induction h with
  | nil => exact h'
  | cons h _ ih => exact .cons h ih
theorem Mt.length {w : World} {a : List CK} {x : List Value} (h : Mt w a x) : x.length = a.length := by
  induction h with
  | nil => rfl
  | cons h _ ih => simp [ih]
/-- What the cells' places hold. -/
noncomputable def rowW (w : World) (ks : List CK) (vs : List Value) : RowW :=
  ⟨fun j => match vs[j]? with | some (.int _ z) => z | _ => 0, fun j => match vs[j]? with | some (.bool b) => b | _ => false, fun j => vs.getD j (.bool false),
   fun j => match ks[j]? with | some (.tab l) => @dite _ (∃ xs, SlT l w (vs.getD j (.bool false)) xs) (Classical.propDecidable _) (fun h => Classical.choose h) (fun _ => []) | _ => []⟩
def okW (w : World) (ks : List CK) (r : RowW) : Prop := (∀ j k, ks[j]? = some (.int k) → (Lit.int k (r.c j)).wf = true) ∧ ∀ j l, ks[j]? = some (.tab l) → SlT l w (r.s j) (r.t j)
theorem Mt.get {w : World} {ks : List CK} {vs : List Value} (h : Mt w ks vs) : ∀ {j : Nat} {k : CK}, ks[j]? = some k → ∃ v, vs[j]? = some v ∧ cellW w k v := by
  induction h with
  | nil => intro j k h; simp at h
  | cons h _ ih =>
    intro j k hj
    cases j with
    | zero => simp at hj; subst hj; exact ⟨_, rfl, h⟩
    | succ j => simpa using ih (by simpa using hj)
theorem Mt.row {w : World} {ks : List CK} {vs : List Value} (h : Mt w ks vs) : vs = enW (rowW w ks vs) ks 0 ∧ okW w ks (rowW w ks vs) := by
  have key : ∀ (n : Nat) (pre post : List CK) (a b : List Value), ks = pre ++ post → vs = a ++ b → a.length = pre.length → b.length = post.length → post.length = n → b = enW (rowW w ks vs) post pre.length := by
    intro n
    induction n with
    | zero =>
      intro pre post a b h1 h2 h3 h4 h5
      cases post with
      | nil => cases b with
        | nil => rfl
        | cons x b => simp at h4
      | cons x l => simp at h5
    | succ n ih =>
      intro pre post a b h1 h2 h3 h4 h5
      cases post with
      | nil => simp at h5
      | cons k post =>
        cases b with
        | nil => simp at h4
        | cons v b =>
          have hk : ks[pre.length]? = some k := by rw [h1]; simp
          have hv : vs[pre.length]? = some v := by rw [h2, ← h3]; simp
          obtain ⟨v', hv', hc⟩ := h.get hk
          rw [hv] at hv'
          obtain rfl := Option.some.inj hv'
          have ih' := ih (pre ++ [k]) post (a ++ [v]) b (by simp [h1]) (by simp [h2]) (by simp [h3]) (by simpa using h4) (by simpa using h5)
          rw [List.length_append, List.length_singleton] at ih'
          have hd : vs.getD pre.length (.bool false) = v := by rw [List.getD_eq_getElem?_getD, hv]; rfl
          cases k with
          | int k =>
            obtain ⟨z, rfl, _⟩ := hc
            rw [enW, ← ih']
            congr 1
            simp [rowW, hv]
          | bool =>
            obtain ⟨z, rfl⟩ := hc
            rw [enW, ← ih']
            congr 1
            simp [rowW, hv]
          | tab l =>
            rw [enW, ← ih']
            congr 1
            exact hd.symm
  refine ⟨key ks.length [] ks [] vs rfl rfl rfl h.length rfl, fun j k hk => ?_, fun j l hl => ?_⟩
  · obtain ⟨v, hv, z, rfl, hz⟩ := h.get hk
    simpa [rowW, hv] using hz
  · obtain ⟨v, hv, xs, hx⟩ := h.get hl
    have hd : vs.getD j (.bool false) = v := by rw [List.getD_eq_getElem?_getD, hv]; rfl
    have hex : ∃ xs, SlT l w (vs.getD j (.bool false)) xs := ⟨xs, by rw [hd]; exact hx⟩
    have e : (rowW w ks vs).t j = Classical.choose hex := by
      simp only [rowW, hl]
      rw [dif_pos hex]
    rw [e]
    exact Classical.choose_spec hex
/-- Cells of a row, as a row. -/
theorem Mt.flat {w : World} {cks : List CK} {vs : List Value} (h : Mt w cks vs) : ∀ {ks : List (Option IntKind)}, flatCK cks = some ks → ∃ r : RowV, vs = enV r ks 0 ∧ okV ks r := by
  have key : ∀ {cks : List CK} {vs : List Value}, Mt w cks vs → ∀ {ks : List (Option IntKind)}, flatCK cks = some ks → ∀ (r : RowV) (j : Nat), ∃ r' : RowV, vs = enV r' ks j ∧ (∀ i k, ks[i]? = some (some k) → (Lit.int k (r'.c (j + i))).wf = true) ∧ ∀ i, i < j → r'.c i = r.c i ∧ r'.g i = r.g i := by
    intro cks vs h
    induction h with
    | nil =>
      intro ks hk r j
      simp only [flatCK] at hk
      cases hk
      exact ⟨r, rfl, fun i k h => by simp at h, fun i _ => ⟨rfl, rfl⟩⟩
    | @cons k v cks vs hc _ ih =>
      intro ks hk r j
      cases k with
      | int k =>
        simp only [flatCK] at hk
        split at hk
        · rename_i m hm
          cases hk
          obtain ⟨z, rfl, hz⟩ := hc
          obtain ⟨r', h1, h2, h3⟩ := ih hm ⟨fun i => if i = j then z else r.c i, r.g⟩ (j + 1)
          have hj := h3 j (by omega)
          simp only [if_true] at hj
          refine ⟨r', by rw [enV, hj.1, ← h1], fun i k' hk' => ?_, fun i hi => ?_⟩
          · cases i with
            | zero => simp at hk'; subst hk'; rw [Nat.add_zero, hj.1]; exact hz
            | succ i => have := h2 i k' (by simpa using hk'); rwa [show j + 1 + i = j + (i + 1) by omega] at this
          · have := h3 i (by omega)
            simp only [if_neg (show i ≠ j by omega)] at this
            exact this
        · cases hk
      | bool =>
        simp only [flatCK] at hk
        split at hk
        · rename_i m hm
          cases hk
          obtain ⟨z, rfl⟩ := hc
          obtain ⟨r', h1, h2, h3⟩ := ih hm ⟨r.c, fun i => if i = j then z else r.g i⟩ (j + 1)
          have hj := h3 j (by omega)
          simp only [if_true] at hj
          refine ⟨r', by rw [enV, hj.2, ← h1], fun i k' hk' => ?_, fun i hi => ?_⟩
          · cases i with
            | zero => simp at hk'
            | succ i => have := h2 i k' (by simpa using hk'); rwa [show j + 1 + i = j + (i + 1) by omega] at this
          · have := h3 i (by omega)
            simp only [if_neg (show i ≠ j by omega)] at this
            exact this
        · cases hk
      | tab l => simp [flatCK] at hk
  intro ks hk
  obtain ⟨r', h1, h2, _⟩ := key h hk RowV.zero 0
  exact ⟨r', h1, fun j k hj => by have := h2 j k hj; rwa [Nat.zero_add] at this⟩
section
variable {H : Type} {enc : TypeId × Value → H} {P : Program} {w : World} {base : Nat} {spare : Nat → Bool} {held : Bool}
theorem seg_add {α : Type} (cs : List α) (o a b : Nat) : (cs.drop o).take (a + b) = (cs.drop o).take a ++ (cs.drop (o + a)).take b := by
  rw [List.take_add, List.drop_drop]
theorem ckFs_ok {f : TypeId → Option (List CK)} {cs : List Value} (hf : ∀ t ks, f t = some ks → ∀ n vs y, DataW.trod enc P w base spare held n t vs = some y → Mt w ks vs) :
    ∀ (l : List Field) (off : Nat) (ks : List CK), ckFs P f off l = some ks → (∀ (i : Nat) (fd : Field), l[i]? = some fd → ∃ n y, DataW.trod enc P w base spare held n fd.type ((cs.drop fd.offset).take (P.cellsOf fd.type)) = some y) → Mt w ks ((cs.drop off).take ks.length)
  | [], off, ks, h, _ => by
    simp only [ckFs] at h
    cases h
    simpa using Mt.nil
  | fd :: l, off, ks, h, ht => by
    simp only [ckFs] at h
    split at h
    · rename_i k1 hk1
      cases hc : (Nat.beq fd.offset off && Nat.beq (P.cellsOf fd.type) k1.length) with
      | false => rw [hc, cond_false] at h; cases h
      | true =>
        rw [hc, cond_true] at h
        simp only [Bool.and_eq_true] at hc
        have e1 := Nat.eq_of_beq_eq_true hc.1
        have e2 := Nat.eq_of_beq_eq_true hc.2
        split at h
        · rename_i m hm
          cases h
          obtain ⟨n, y, hy⟩ := ht 0 fd rfl
          rw [e1, e2] at hy
          have h1 := hf _ _ hk1 _ _ _ hy
          have h2 := ckFs_ok hf l (off + k1.length) m hm fun i fd' hi => ht (i + 1) fd' (by simpa using hi)
          rw [List.length_append, seg_add]
          exact h1.append h2
        · cases h
    · cases h
theorem repL_length {α : Type} (l : List α) : ∀ n, (repL n l).length = n * l.length
  | 0 => by simp [repL]
  | n + 1 => by rw [repL, List.length_append, repL_length l n, Nat.succ_mul]
theorem repL_ok {cs : List Value} {ks : List CK} {z : Nat} (hz : ks.length = z) : ∀ (n : Nat), (∀ i, i < n → Mt w ks ((cs.drop (i * z)).take z)) → Mt w (repL n ks) (cs.take (n * z))
  | 0, _ => by simpa [repL] using Mt.nil
  | n + 1, h => by
    have ih := repL_ok hz n fun i hi => h i (by omega)
    rw [repL, Nat.succ_mul, List.take_add]
    exact ih.append (h n (by omega))
theorem ckOf_ok : ∀ (d : Nat) (t : TypeId) (ks : List CK), ckOf P d t = some ks → ∀ n cs y, DataW.trod enc P w base spare held n t cs = some y → Mt w ks cs
  | 0, _, _, h => by simp [ckOf] at h
  | d + 1, t, ks, h => by
    intro n cs y hy
    unfold ckOf at h
    split at h
    · rename_i k hk
      cases h
      obtain ⟨z, rfl, _, hw⟩ := DataW.trod_int hk hy
      exact .cons ⟨z, rfl, hw⟩ .nil
    · rename_i hk
      cases h
      obtain ⟨b, rfl, _⟩ := DataW.trod_bool hk hy
      exact .cons ⟨b, rfl⟩ .nil
    · rename_i fs hk
      split at h
      · rename_i l hl
        cases hc : Nat.beq (P.cellsOf t) l.length with
        | false => rw [hc, cond_false] at h; cases h
        | true =>
          rw [hc, cond_true] at h
          cases h
          have hlen := Nat.eq_of_beq_eq_true hc
          obtain ⟨xs, m, _, _, hcl, hxl, hg⟩ := DataW.trod_struct hk hy
          have := ckFs_ok (ckOf_ok d) fs.toList 0 _ hl (cs := cs) fun i fd hi => by
            have hi' : fs[i]? = some fd := by simpa using hi
            have hlt : i < xs.length := by rw [hxl]; exact (Array.getElem?_eq_some_iff.1 hi').1
            exact ⟨m, xs[i], by rw [hg i fd hi']; exact List.getElem?_eq_getElem hlt⟩
          rwa [List.drop_zero, List.take_of_length_le (by omega)] at this
      · cases h
    · rename_i m e hk
      split at h
      · rename_i l hl
        cases hc : (Nat.beq (P.cellsOf e) l.length && Nat.beq (P.cellsOf t) (m * l.length)) with
        | false => rw [hc, cond_false] at h; cases h
        | true =>
          rw [hc, cond_true] at h
          cases h
          simp only [Bool.and_eq_true] at hc
          have e1 := Nat.eq_of_beq_eq_true hc.1
          have e2 := Nat.eq_of_beq_eq_true hc.2
          obtain ⟨xs, q, _, _, hcl, hxl, hg⟩ := DataW.trod_array hk hy
          have := repL_ok (w := w) (cs := cs) (ks := l) rfl m fun i hi => by
            have h1 := hg i hi
            rw [e1, List.getElem?_eq_getElem (by omega)] at h1
            exact ckOf_ok d _ _ hl _ _ _ h1
          rwa [List.take_of_length_le (by omega)] at this
      · cases h
    · rename_i e hk
      split at h
      · rename_i ck hck
        split at h
        · rename_i l hl
          cases hc : (Nat.beq (P.cellsOf e) l.length && Nat.blt 0 l.length) with
          | false => rw [hc, cond_false] at h; cases h
          | true =>
            rw [hc, cond_true] at h
            cases h
            simp only [Bool.and_eq_true] at hc
            obtain ⟨v, xs, rfl, h1, h2⟩ := sl_open (en := fun r => enV r l 0) (ok := okV l) (z := l.length) (Nat.lt_of_succ_le (Nat.le_of_ble_eq_true hc.2)) (fun x => enV_length _ _ _) hk (Nat.eq_of_beq_eq_true hc.1)
              (fun n cs y _ hy => (ckOf_ok d _ _ hck _ _ _ hy).flat hl) hy
            exact .cons ⟨xs, h1, h2⟩ .nil
        · cases h
      · cases h
    · cases h
/-- An argument, opened. -/
theorem open_agg {t : TypeId} {r : Reach} {b0 : Nat} {v : Value} {d : DataW H} {p : List MemPlace} {dp : Nat} {ks : List CK} (hk : ckOf P dp t = some ks) (hs : (∃ fs, P.underlying t = some (.struct fs)) ∨ ∃ n e, P.underlying t = some (.array n e))
    (hval : Value.okWide P w r b0 t v) (h : DataW.Trod enc P w base spare held t v d p) : ∃ x : RowW, v = .agg (enW x ks 0).toArray ∧ okW w ks x := by
  obtain ⟨cs, rfl⟩ : ∃ cs, v = .agg cs := by
    rcases hs with ⟨fs, hs⟩ | ⟨n, e, hs⟩
    · obtain ⟨cs, h1, _⟩ := okWide_struct hs hval; exact ⟨cs, h1⟩
    · obtain ⟨cs, h1, _⟩ := okWide_arr hs hval; exact ⟨cs, h1⟩
  obtain ⟨fuel, hf⟩ := h
  have hm := ckOf_ok dp t ks hk _ _ _ hf
  obtain ⟨h1, h2⟩ := hm.row
  refine ⟨_, ?_, h2⟩
  rw [← h1]
  simp [Value.cells]
theorem open_slT {t : TypeId} {r : Reach} {b0 : Nat} {v : Value} {d : DataW H} {p : List MemPlace} {dp : Nat} {l : List (Option IntKind)} {e : TypeId} (hk : ckOf P dp t = some [.tab l]) (hs : P.underlying t = some (.slice e))
    (hval : Value.okWide P w r b0 t v) (h : DataW.Trod enc P w base spare held t v d p) : ∃ xs, SlT l w v xs := by
  obtain ⟨a, len, cap, rfl⟩ := okWide_slice hs hval
  obtain ⟨fuel, hf⟩ := h
  have hm := ckOf_ok dp t _ hk _ _ _ hf
  have e : (Value.slice a len cap).cells.toList = [Value.slice a len cap] := rfl
  rw [e] at hm
  cases hm with
  | cons h _ => exact h
end
/-! ## Slices as tables -/
def tabV (xs : List RowV) : Tab := ⟨xs.length, fun j i => (xs.getD i RowV.zero).c j, fun j i => (xs.getD i RowV.zero).g j⟩
theorem rowCs_sl {c c' : Nat → Nat → Int} {g g' : Nat → Nat → Bool} {i i' : Nat} (hc : ∀ j, c j i = c' j i') (hg : ∀ j, g j i = g' j i') : ∀ (ks : List (Option IntKind)) (j : Nat), rowCs c g i ks j = rowCs c' g' i' ks j
  | [], _ => rfl
  | some k :: ks, j => by rw [rowCs, rowCs, hc j, rowCs_sl hc hg ks]
  | none :: ks, j => by rw [rowCs, rowCs, hg j, rowCs_sl hc hg ks]
theorem enV_rel {ρ : Env} {σ : Mp} (r : RowV) : ∀ (ks : List (Option IntKind)) (j : Nat), VRl ρ σ (rowCs (fun j _ => r.c j) (fun j _ => r.g j) 0 ks j) (enV r ks j)
  | [], _ => .nil
  | some k :: ks, j => .cons (.int k (.x (r.c j))) (enV_rel r ks (j + 1))
  | none :: ks, j => .cons (.bool (.x (r.g j))) (enV_rel r ks (j + 1))
theorem ArgAt.rows_eq {ρ : Env} {w : World} {n z : Nat} {f g : Nat → List CV} {hf : ∀ j, (f j).length = z ∧ (f j).all CV.flat = true} {hg : ∀ j, (g j).length = z ∧ (g j).all CV.flat = true} {lo : Option Loc} (e : f = g) (h : ArgAt ρ w ⟨.arg n z f hf, z, true, none⟩ lo) : ArgAt ρ w ⟨.arg n z g hg, z, true, none⟩ lo := by
  subst e; exact h
structure SlV where
  v : Value
  ks : List (Option IntKind)
  xs : List RowV
noncomputable def sigV (w : World) (S : List SlV) : Mp := fun b => match S[b]? with | some s => locOf w s.v s.ks.length | none => none
def heapV : Nat → List SlV → List (Nat × Blk)
  | _, [] => []
  | i, s :: l => (i, tabB s.ks (tabV s.xs)) :: heapV (i + 1) l
theorem sigV_none {w : World} {S : List SlV} {b : Nat} (h : S.length ≤ b) : sigV w S b = none := by
  unfold sigV; rw [List.getElem?_eq_none h]
theorem SlT.both {ρ : Env} {w : World} {S : List SlV} {b : Nat} {s : SlV} (hb : S[b]? = some s) (h : SlT s.ks w s.v s.xs) : VR ρ (sigV w S) (.sla b s.ks.length 0 s.xs.length) s.v ∧ ArgAt ρ w (tabB s.ks (tabV s.xs)) (sigV w S b) := by
  obtain ⟨h1, h2⟩ := SlR.rel (ρ := ρ) (σ := sigV w S) (b := b) (ec := fun r => rowCs (fun j _ => r.c j) (fun j _ => r.g j) 0 s.ks 0) (d := RowV.zero) h.1 (fun x => enV_length _ _ _) (fun σ x => enV_rel x s.ks 0) (fun j => rowCs_ok _ _ _ _ _) (by unfold sigV; rw [hb])
  have e : (fun j => rowCs (fun j' _ => (s.xs.getD j RowV.zero).c j') (fun j' _ => (s.xs.getD j RowV.zero).g j') 0 s.ks 0) = fun i => rowCs (tabV s.xs).c (tabV s.xs).g i s.ks 0 := funext fun i => rowCs_sl (c := fun j' _ => (s.xs.getD i RowV.zero).c j') (g := fun j' _ => (s.xs.getD i RowV.zero).g j') (fun _ => rfl) (fun _ => rfl) _ _
  have h3 := ArgAt.rows_eq (hg := fun i => rowCs_ok (tabV s.xs).c (tabV s.xs).g i s.ks 0) e h2
  exact ⟨h1, h3⟩
theorem SlT.rel {ρ : Env} {w : World} {S : List SlV} (b : Nat) {s : SlV} (hb : S[b]? = some s) (h : SlT s.ks w s.v s.xs) : VR ρ (sigV w S) (.sla b s.ks.length 0 s.xs.length) s.v := (h.both hb).1
theorem SlT.len {ks : List (Option IntKind)} {w : World} {v : Value} {xs : List RowV} (h : SlT ks w v xs) : xs.length ≤ 9223372036854775807 := by
  obtain ⟨⟨a, cap, _, _, hl, _⟩, _⟩ := h
  exact hl
theorem SlT.wf {ks : List (Option IntKind)} {w : World} {v : Value} {xs : List RowV} (h : SlT ks w v xs) (j : Nat) (k : IntKind) (hk : ks[j]? = some (some k)) (h0 : (Lit.int k 0).wf = true) (i : Nat) : (Lit.int k ((tabV xs).c j i)).wf = true := by
  show (Lit.int k ((xs.getD i RowV.zero).c j)).wf = true
  by_cases hi : i < xs.length
  · rw [List.getD_eq_getElem?_getD, List.getElem?_eq_getElem hi]
    exact h.2 _ (List.getElem_mem hi) j k hk
  · rw [List.getD_eq_getElem?_getD, List.getElem?_eq_none (by omega)]
    exact h0
theorem heapV_get {ρ : Env} {w : World} : ∀ (l : List SlV) (i : Nat) (S : List SlV), (∀ j s, l[j]? = some s → S[i + j]? = some s) → (∀ s ∈ l, SlT s.ks w s.v s.xs) → ∀ b k, (mkH (heapV i l)).get b = some k → ArgAt ρ w k (sigV w S b)
  | [], i, S, _, _, b, k, h => by
    simp only [heapV, mkH] at h
    cases h
  | s :: l, i, S, hS, hT, b, k, h => by
    have h : ((mkH (heapV (i + 1) l)).set i (tabB s.ks (tabV s.xs))).get b = some k := h
    rw [Tr.get_set] at h
    split at h
    · rename_i hb
      cases h
      have := hS 0 s rfl
      rw [Nat.add_zero] at this
      rw [hb]
      exact ((hT s (by simp)).both this).2
    · exact heapV_get l (i + 1) S (fun j s' hj => by rw [show i + 1 + j = i + (j + 1) by omega]; exact hS (j + 1) s' (by simpa using hj)) (fun s' hs => hT s' (by simp [hs])) b k h
theorem argsV {ρ : Env} {w : World} (S : List SlV) (base : Nat) (hS : ∀ s ∈ S, SlT s.ks w s.v s.xs) (hL : Laid w) : HR ρ (sigV w S) (curOf (mkH (heapV 0 S)) base) w :=
  HR.ofArgs hL fun i k _ hk => heapV_get S 0 S (fun j s h => by rw [Nat.zero_add]; exact h) hS i k hk
end Go.Proofs.Ytjdldcmcjaaibaa.Cx

/- FitShifts holds, for all inputs: by its automaton. Made by tools/cxlaws.py. -/
namespace Go.Proofs.Ytjdldcmcjaaibaa
set_option linter.unusedVariables false
set_option linter.unusedSimpArgs false
open Go.ChangeShapes Go.WideShapes Go.ChangeAt Go.RowKit
open Cx (Env IE BE DT KnownB)
set_option maxRecDepth 100000 in
theorem fshifts_open0 {H : Type} {enc : TypeId × Value → H} {w : World} {base : Nat} {spare : Nat → Bool} {held : Bool} {r : Reach} {b0 : Nat} {vv : Value} {d : DataW H} {p : List MemPlace} (hval : Value.okWide Try.prog w r b0 26 vv) (h : DataW.Trod enc Try.prog w base spare held 26 vv d p) :
    ∃ y0 : Cx.RowW, vv = .agg #[y0.s 0, .int .i64 (y0.c 1), .int .i64 (y0.c 2)] ∧ Cx.okW w [.tab [some .i64, some .i64], .int .i64, .int .i64] y0 :=
  Cx.open_agg (ks := [.tab [some .i64, some .i64], .int .i64, .int .i64]) (dp := 12) (by kernel_rfl) (.inl ⟨_, Try.underlying26⟩) hval h
set_option maxRecDepth 100000 in
theorem fshifts_open1 {H : Type} {enc : TypeId × Value → H} {w : World} {base : Nat} {spare : Nat → Bool} {held : Bool} {r : Reach} {b0 : Nat} {vv : Value} {d : DataW H} {p : List MemPlace} (hval : Value.okWide Try.prog w r b0 26 vv) (h : DataW.Trod enc Try.prog w base spare held 26 vv d p) :
    ∃ y1 : Cx.RowW, vv = .agg #[y1.s 0, .int .i64 (y1.c 1), .int .i64 (y1.c 2)] ∧ Cx.okW w [.tab [some .i64, some .i64], .int .i64, .int .i64] y1 :=
  Cx.open_agg (ks := [.tab [some .i64, some .i64], .int .i64, .int .i64]) (dp := 12) (by kernel_rfl) (.inl ⟨_, Try.underlying26⟩) hval h
set_option maxRecDepth 100000 in
theorem fshifts_open2 {H : Type} {enc : TypeId × Value → H} {w : World} {base : Nat} {spare : Nat → Bool} {held : Bool} {r : Reach} {b0 : Nat} {vv : Value} {d : DataW H} {p : List MemPlace} (hval : Value.okWide Try.prog w r b0 42 vv) (h : DataW.Trod enc Try.prog w base spare held 42 vv d p) :
    ∃ y2 : Cx.RowW, vv = .agg #[.int .i64 (y2.c 0), .int .i64 (y2.c 1), .int .i64 (y2.c 2), .int .i64 (y2.c 3), .int .i64 (y2.c 4)] ∧ Cx.okW w [.int .i64, .int .i64, .int .i64, .int .i64, .int .i64] y2 :=
  Cx.open_agg (ks := [.int .i64, .int .i64, .int .i64, .int .i64, .int .i64]) (dp := 12) (by kernel_rfl) (.inl ⟨_, Try.underlying42⟩) hval h
theorem fshifts_walk (y0 : Cx.RowW) (y1 : Cx.RowW) (y2 : Cx.RowW) (w : World) (g0 : Cx.okW w [.tab [some .i64, some .i64], .int .i64, .int .i64] y0) (g1 : Cx.okW w [.tab [some .i64, some .i64], .int .i64, .int .i64] y1) (g2 : Cx.okW w [.int .i64, .int .i64, .int .i64, .int .i64, .int .i64] y2) :
    Calls Try.prog 4 #[.agg #[y0.s 0, .int .i64 (y0.c 1), .int .i64 (y0.c 2)], .agg #[y1.s 0, .int .i64 (y1.c 1), .int .i64 (y1.c 2)], .agg #[.int .i64 (y2.c 0), .int .i64 (y2.c 1), .int .i64 (y2.c 2), .int .i64 (y2.c 3), .int .i64 (y2.c 4)]] w fun e w' => e = .returned (.bool true) ∧ Below w.heap.size w w' := by
  have hLw : Cx.Laid w := fun _ h => by cases h
  obtain ⟨n, v, hv, hp⟩ := Cx.lsh_run (Cx.tabV (y0.t 0)).n ((Cx.tabV (y0.t 0)).c 0) ((Cx.tabV (y0.t 0)).c 1) (y0.c 1) (y0.c 2) (Cx.tabV (y1.t 0)).n ((Cx.tabV (y1.t 0)).c 0) ((Cx.tabV (y1.t 0)).c 1) (y1.c 1) (y1.c 2) (y2.c 0) (y2.c 1) (y2.c 2) (y2.c 3) (y2.c 4) (Cx.SlT.len (g0.2 0 _ rfl)) (fun i => rng_i64 (Cx.SlT.wf (g0.2 0 _ rfl) 0 .i64 rfl rfl i)) (fun i => rng_i64 (Cx.SlT.wf (g0.2 0 _ rfl) 1 .i64 rfl rfl i)) (rng_i64 (g0.1 1 .i64 rfl)) (rng_i64 (g0.1 2 .i64 rfl)) (Cx.SlT.len (g1.2 0 _ rfl)) (fun i => rng_i64 (Cx.SlT.wf (g1.2 0 _ rfl) 0 .i64 rfl rfl i)) (fun i => rng_i64 (Cx.SlT.wf (g1.2 0 _ rfl) 1 .i64 rfl rfl i)) (rng_i64 (g1.1 1 .i64 rfl)) (rng_i64 (g1.1 2 .i64 rfl)) (rng_i64 (g2.1 0 .i64 rfl)) (rng_i64 (g2.1 1 .i64 rfl)) (rng_i64 (g2.1 2 .i64 rfl)) (rng_i64 (g2.1 3 .i64 rfl)) (rng_i64 (g2.1 4 .i64 rfl))
  have hS : ∀ s ∈ ([⟨(y0.s 0), [some .i64, some .i64], (y0.t 0)⟩, ⟨(y1.s 0), [some .i64, some .i64], (y1.t 0)⟩] : List Cx.SlV), Cx.SlT s.ks w s.v s.xs := fun s hs => by
    simp only [List.mem_cons, List.not_mem_nil, or_false] at hs
    rcases hs with rfl | rfl
    · exact (g0.2 0 _ rfl)
    · exact (g1.2 0 _ rfl)
  exact Cx.Ctr.law (ρ := ⟨fun _ => 0, fun _ => false⟩) (σ := Cx.sigV w ([⟨(y0.s 0), [some .i64, some .i64], (y0.t 0)⟩, ⟨(y1.s 0), [some .i64, some .i64], (y1.t 0)⟩] : List Cx.SlV)) (e := .x v) (Cx.lshctr (Cx.tabV (y0.t 0)).n ((Cx.tabV (y0.t 0)).c 0) ((Cx.tabV (y0.t 0)).c 1) (y0.c 1) (y0.c 2) (Cx.tabV (y1.t 0)).n ((Cx.tabV (y1.t 0)).c 0) ((Cx.tabV (y1.t 0)).c 1) (y1.c 1) (y1.c 2) (y2.c 0) (y2.c 1) (y2.c 2) (y2.c 3) (y2.c 4) Cx.lshmem hv) hp (.cons (.agg (.cons (Cx.SlT.rel (S := ([⟨(y0.s 0), [some .i64, some .i64], (y0.t 0)⟩, ⟨(y1.s 0), [some .i64, some .i64], (y1.t 0)⟩] : List Cx.SlV)) 0 rfl (g0.2 0 _ rfl)) (.cons (.int .i64 (.x (y0.c 1))) (.cons (.int .i64 (.x (y0.c 2))) .nil)))) (.cons (.agg (.cons (Cx.SlT.rel (S := ([⟨(y0.s 0), [some .i64, some .i64], (y0.t 0)⟩, ⟨(y1.s 0), [some .i64, some .i64], (y1.t 0)⟩] : List Cx.SlV)) 1 rfl (g1.2 0 _ rfl)) (.cons (.int .i64 (.x (y1.c 1))) (.cons (.int .i64 (.x (y1.c 2))) .nil)))) (.cons (.agg (.cons (.int .i64 (.x (y2.c 0))) (.cons (.int .i64 (.x (y2.c 1))) (.cons (.int .i64 (.x (y2.c 2))) (.cons (.int .i64 (.x (y2.c 3))) (.cons (.int .i64 (.x (y2.c 4))) .nil)))))) .nil))) (Cx.argsV ([⟨(y0.s 0), [some .i64, some .i64], (y0.t 0)⟩, ⟨(y1.s 0), [some .i64, some .i64], (y1.t 0)⟩] : List Cx.SlV) _ hS hLw) (fun b hb => Cx.sigV_none hb)
theorem fshifts_own : ownKnob Try.prog.godebug = none := by kernel_rfl
theorem fshifts_laidOut : laidOutB Try.prog = true := by kernel_rfl
set_option maxRecDepth 100000 in
theorem fshifts_lifted (os : Os) (started : os.Started) (H : Type) (enc : TypeId × Value → H) :
    ReturnsInHanded {} Try.checked os 4 .any (Rows.fitShiftsSpec.pre6 enc Try.prog Try.f4 Rows.fitShiftsRow.domain false) (Rows.fitShiftsSpec.post enc Try.prog Try.f4 false true false false) := by
  refine returnsInHanded_of_change (C := Try.checked) fshifts_own started (by kernel_rfl) Try.func4
    (ChangeSpec.witness6 (enc := enc) (C := Try.checked) false ⟨#[], #[.agg #[.slice none 0 0, .int .i64 0, .int .i64 0], .agg #[.slice none 0 0, .int .i64 0, .int .i64 0], .agg #[.int .i64 0, .int .i64 0, .int .i64 0, .int .i64 0, .int .i64 0]], []⟩ 8 (by kernel_rfl) (by kernel_rfl) (by kernel_rfl) (by kernel_rfl)) ?_
  intro W base args ds gs before hval0 hW hcnd _
  have hval : ∀ (j : Nat) t v, Try.f4.params[j]? = some t → args[j]? = some v → Value.okWide Try.prog W .any base t v := hval0
  have hW' := hW
  obtain ⟨p, q, hA0, hV, rfl, hfz, hnd⟩ := hW
  have hA : DataW.TrodAll enc Try.prog W 0 (fun _ => true) true Try.f4.params.toList args.toList ds p := hA0
  rw [Try.params4] at hA hval
  obtain ⟨v0, vs0, d0, ds0, p0, q0, hargs, rfl, rfl, h0, r0⟩ := trodAll_cons hA
  obtain ⟨v1, vs1, d1, ds1, p1, q1, rfl, rfl, rfl, h1, r1⟩ := trodAll_cons r0
  obtain ⟨v2, vs2, d2, ds2, p2, q2, rfl, rfl, rfl, h2, r2⟩ := trodAll_cons r1
  obtain ⟨rfl, rfl, rfl⟩ := trodAll_nil r2
  obtain rfl : args = #[v0, v1, v2] := by cases args; simp_all
  obtain ⟨rfl, rfl⟩ := trodVars_none hV
  have k0 := h0
  have lt0 : ∀ x ∈ p0, x.block < W.heap.size := by obtain ⟨m, hm⟩ := k0; exact DataW.trod_lt m _ _ _ hm
  have k1 := h1
  have lt1 : ∀ x ∈ p1, x.block < W.heap.size := by obtain ⟨m, hm⟩ := k1; exact DataW.trod_lt m _ _ _ hm
  have k2 := h2
  have lt2 : ∀ x ∈ p2, x.block < W.heap.size := by obtain ⟨m, hm⟩ := k2; exact DataW.trod_lt m _ _ _ hm
  obtain ⟨y0, rfl, g0⟩ := fshifts_open0 (hval 0 26 v0 rfl rfl) h0
  obtain ⟨y1, rfl, g1⟩ := fshifts_open1 (hval 1 26 v1 rfl rfl) h1
  obtain ⟨y2, rfl, g2⟩ := fshifts_open2 (hval 2 42 v2 rfl rfl) h2
  clear hA0 hval0
  refine (fshifts_walk y0 y1 y2 W g0 g1 g2).mono fun e W' ⟨he, bel⟩ => ?_
  subst he
  exact ⟨_, rfl, _, _, _, [], _, [], hW', trodAll_mk1 (shut_bool Try.underlying4 _), (trodAll_cons_mk (Below.trod fshifts_laidOut (by kernel_rfl) (of_decide_eq_true (by kernel_rfl)) k0 bel lt0) (trodAll_cons_mk (Below.trod fshifts_laidOut (by kernel_rfl) (of_decide_eq_true (by kernel_rfl)) k1 bel lt1) (trodAll_cons_mk (Below.trod fshifts_laidOut (by kernel_rfl) (of_decide_eq_true (by kernel_rfl)) k2 bel lt2) trodAll_mk0))), rfl, bel.frame _, fun h => by cases h⟩
theorem fshifts_over : Rows.fitShiftsRow.holds Try.pinned (OpenSpec.ofChange Rows.fitShiftsSpec) :=
  OpenClaim.holds_of_wide 4 Try.f4 rfl rfl rfl rfl rfl rfl rfl ⟨rfl, rfl, rfl, rfl, rfl⟩ rfl rfl rfl rfl rfl (by kernel_rfl) Try.func4 (by kernel_rfl)
    (of_decide_eq_true (by kernel_rfl)) (by unfold Func.isWrapper; rw [if_neg (of_decide_eq_false (by kernel_rfl))]; exact ⟨rfl, rfl⟩)
    (fun os started H enc _ => fshifts_lifted os started H enc)
theorem fshifts_proved : Rows.FitShiftsSaid := fshifts_over
#print axioms fshifts_proved
end Go.Proofs.Ytjdldcmcjaaibaa
