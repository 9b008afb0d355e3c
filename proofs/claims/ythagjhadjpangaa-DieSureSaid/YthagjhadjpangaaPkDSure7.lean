/- (acme/die.shop).inOrder as an automaton. Made by tools/cxauto.py. -/
import Derived.Test.YthagjhadjpangaaPkDSure6

namespace Go.Proofs.Ythagjhadjpangaa.Cx
set_option linter.unusedVariables false
set_option linter.unusedSimpArgs false
set_option maxRecDepth 100000
open Go Go.Proofs Go.RowKit
noncomputable abbrev dioCode : Code := funcCode Try.f76
inductive dioN where
  | n0 (p0 p1 : Int)
abbrev dioR := Bool
noncomputable def dioD0 (a0 : Bool) (a1 a2 a3 a4 : Int) (a5 : Nat) (a6 a7 : Nat → Int) (a8 : Nat) (a9 a10 a11 a12 : Nat → Int) (a13 : Int) (a14 : Nat) (a15 : Nat → Int) : DD (Lf dioN dioR) :=
 .leaf (.next (.n0 (-1) 0) [3])

noncomputable def dioD (a0 : Bool) (a1 a2 a3 a4 : Int) (a5 : Nat) (a6 a7 : Nat → Int) (a8 : Nat) (a9 a10 a11 a12 : Nat → Int) (a13 : Int) (a14 : Nat) (a15 : Nat → Int) : dioN → DD (Lf dioN dioR)
 | .n0 p0 p1 =>
 let z0 := a15 (0 + Int.toNat p1)
 let z1 := fun i => [CV.int IntKind.i64 (IE.x (a15 (0 + i)))]
 let z2 := xalA 0 (Ar.run .sub .i64 a13 1) a14 (fun i => a15 (0 + i))
 .ask (Cm.run .lss p1 (↑a14 : Int))
   (.must (decide (0 ≤ p1))
   (.must (decide (p1 < (↑a14 : Int)))
   (.must (decide (0 + Int.toNat p1 < a14))
   (.ask (Cm.run .leq z0 p0)
   (.leaf (.done false []))
   (.leaf (.next (.n0 z0 (Ar.run .add .i64 p1 1)) [3]))))))
   (.must (decide (0 + a14 ≤ a14))
   (.must (ShapeOk [some IntKind.i64] (tabOf a14 z1) z1)
   (.must (AF.fin z2)
   (.leaf (.done (AF.val z2) [])))))

noncomputable def dioA (a0 : Bool) (a1 a2 a3 a4 : Int) (a5 : Nat) (a6 a7 : Nat → Int) (a8 : Nat) (a9 a10 a11 a12 : Nat → Int) (a13 : Int) (a14 : Nat) (a15 : Nat → Int) : AF dioN dioR where
  code := dioCode
  base := 3
  nt := 22
  m := 400
  un := []
  W := []
  h0 := [(0, ⟨.arg a5 2 (fun i => [.int .i64 (.x (a6 i)), .int .i64 (.x (a7 i))]) (fun _ => ⟨rfl, rfl⟩), 2, true, none⟩), (1, ⟨.arg a8 4 (fun i => [.int .i64 (.x (a9 i)), .int .i64 (.x (a10 i)), .int .i64 (.x (a11 i)), .int .i64 (.x (a12 i))]) (fun _ => ⟨rfl, rfl⟩), 4, true, none⟩), (2, ⟨.arg a14 1 (fun i => [.int .i64 (.x (a15 i))]) (fun _ => ⟨rfl, rfl⟩), 1, true, none⟩)]
  args := [.agg [.bool (.x a0), .int .i64 (.x a1), .int .i64 (.x a2), .int .i64 (.x a3), .int .i64 (.x a4), .sla 0 2 0 a5, .sla 1 4 0 a8, .int .i64 (.x a13)], .sla 2 1 0 a14]
  res := (Try.f76).results.toList
  path := fun a => match a with
   | .n0 p0 p1 => [1, 1, 0, 1, 0]
  pd := fun a => match a with
   | .n0 p0 p1 => ⟨[(1, .sla 2 1 0 a14), (2, .ptr (some (3, 0))), (5, .int .i64 (.x p0)), (8, .sla 2 1 0 a14), (9, .int .i64 (.x (↑a14))), (10, .int .i64 (.x p1))], [(3, ⟨.lit [.bool (.x a0), .int .i64 (.x a1), .int .i64 (.x a2), .int .i64 (.x a3), .int .i64 (.x a4), .sla 0 2 0 a5, .sla 1 4 0 a8, .int .i64 (.x a13)], 0, true, none⟩)], 4, []⟩
  D0 := dioD0 a0 a1 a2 a3 a4 a5 a6 a7 a8 a9 a10 a11 a12 a13 a14 a15
  D := dioD a0 a1 a2 a3 a4 a5 a6 a7 a8 a9 a10 a11 a12 a13 a14 a15
  rc := (fun v => .bool (.x v))
  rh := (fun v => [])
  rn := (fun v => 3)
  rx := (fun v => [])
  rgo := (fun _ => none)
theorem diostart (a0 : Bool) (a1 a2 a3 a4 : Int) (a5 : Nat) (a6 a7 : Nat → Int) (a8 : Nat) (a9 a10 a11 a12 : Nat → Int) (a13 : Int) (a14 : Nat) (a15 : Nat → Int) : AF.edgeOk (dioA a0 a1 a2 a3 a4 a5 a6 a7 a8 a9 a10 a11 a12 a13 a14 a15) (ctxOf Try.prog memo0) (dioD0 a0 a1 a2 a3 a4 a5 a6 a7 a8 a9 a10 a11 a12 a13 a14 a15) (AF.run0 (dioA a0 a1 a2 a3 a4 a5 a6 a7 a8 a9 a10 a11 a12 a13 a14 a15) (ctxOf Try.prog (memoS 60 xalP xalF xalW xalH 1 memo0))) := by unfold AF.edgeOk; kernel_rfl
theorem dionode0 (a0 : Bool) (a1 a2 a3 a4 : Int) (a5 : Nat) (a6 a7 : Nat → Int) (a8 : Nat) (a9 a10 a11 a12 : Nat → Int) (a13 : Int) (a14 : Nat) (a15 : Nat → Int) (p0 p1 : Int) : AF.edgeOk (dioA a0 a1 a2 a3 a4 a5 a6 a7 a8 a9 a10 a11 a12 a13 a14 a15) (ctxOf Try.prog memo0) (dioD a0 a1 a2 a3 a4 a5 a6 a7 a8 a9 a10 a11 a12 a13 a14 a15 (.n0 p0 p1)) (AF.runN (dioA a0 a1 a2 a3 a4 a5 a6 a7 a8 a9 a10 a11 a12 a13 a14 a15) (ctxOf Try.prog (memoS 60 xalP xalF xalW xalH 1 memo0)) (.n0 p0 p1)) := by unfold AF.edgeOk; kernel_rfl
theorem diook (a0 : Bool) (a1 a2 a3 a4 : Int) (a5 : Nat) (a6 a7 : Nat → Int) (a8 : Nat) (a9 a10 a11 a12 : Nat → Int) (a13 : Int) (a14 : Nat) (a15 : Nat → Int) : (dioA a0 a1 a2 a3 a4 a5 a6 a7 a8 a9 a10 a11 a12 a13 a14 a15).Ok Try.prog (ctxOf Try.prog (memoS 60 xalP xalF xalW xalH 1 memo0)) where
  regs := by kernel_rfl
  h0 := by kernel_rfl
  start := diostart a0 a1 a2 a3 a4 a5 a6 a7 a8 a9 a10 a11 a12 a13 a14 a15
  node := fun a _ => match a with
   | .n0 p0 p1 => dionode0 a0 a1 a2 a3 a4 a5 a6 a7 a8 a9 a10 a11 a12 a13 a14 a15 p0 p1
  pd := fun a => match a with
   | .n0 p0 p1 => ⟨(fa_cons rfl (fa_cons rfl (fa_cons rfl (fa_cons rfl (fa_cons rfl (fa_cons rfl fa_nil)))))), (fa_cons ⟨.inl (Nat.le_of_ble_eq_true rfl), rfl, rfl⟩ fa_nil), fa_nil, rfl⟩
  le := fun a => match a with
   | .n0 p0 p1 => Nat.le_of_ble_eq_true rfl
  rd := fun v => ⟨⟨fa_nil, fa_nil, fa_nil, rfl⟩, rfl⟩
  wb := rfl
theorem diohR {ρ : Env} (a0 : Bool) (a1 a2 a3 a4 : Int) (a5 : Nat) (a6 a7 : Nat → Int) (a8 : Nat) (a9 a10 a11 a12 : Nat → Int) (a13 : Int) (a14 : Nat) (a15 : Nat → Int) (hM : MemoOk Try.prog (ctxOf Try.prog (memoS 60 xalP xalF xalW xalH 1 memo0)) ρ) : ∀ X a q n D, FxOk ρ X → X.base = (dioA a0 a1 a2 a3 a4 a5 a6 a7 a8 a9 a10 a11 a12 a13 a14 a15).base → X.nt = (dioA a0 a1 a2 a3 a4 a5 a6 a7 a8 a9 a10 a11 a12 a13 a14 a15).nt → X.W = (dioA a0 a1 a2 a3 a4 a5 a6 a7 a8 a9 a10 a11 a12 a13 a14 a15).W → (dioA a0 a1 a2 a3 a4 a5 a6 a7 a8 a9 a10 a11 a12 a13 a14 a15).rgo a = some q → q n = some D → (dioA a0 a1 a2 a3 a4 a5 a6 a7 a8 a9 a10 a11 a12 a13 a14 a15).RangeOk Try.prog ρ X a D := AF.noRange rfl
theorem dioctr {ρ : Env} (a0 : Bool) (a1 a2 a3 a4 : Int) (a5 : Nat) (a6 a7 : Nat → Int) (a8 : Nat) (a9 a10 a11 a12 : Nat → Int) (a13 : Int) (a14 : Nat) (a15 : Nat → Int) {n : Nat} {v : dioR} (hM : MemoOk Try.prog (ctxOf Try.prog (memoS 60 xalP xalF xalW xalH 1 memo0)) ρ) (hv : (dioA a0 a1 a2 a3 a4 a5 a6 a7 a8 a9 a10 a11 a12 a13 a14 a15).run n = some v) :
    Ctr Try.prog ρ 76 (dioA a0 a1 a2 a3 a4 a5 a6 a7 a8 a9 a10 a11 a12 a13 a14 a15).args (dioA a0 a1 a2 a3 a4 a5 a6 a7 a8 a9 a10 a11 a12 a13 a14 a15).H0 (dioA a0 a1 a2 a3 a4 a5 a6 a7 a8 a9 a10 a11 a12 a13 a14 a15).base (dioA a0 a1 a2 a3 a4 a5 a6 a7 a8 a9 a10 a11 a12 a13 a14 a15).W ((dioA a0 a1 a2 a3 a4 a5 a6 a7 a8 a9 a10 a11 a12 a13 a14 a15).rc v) (putH (dioA a0 a1 a2 a3 a4 a5 a6 a7 a8 a9 a10 a11 a12 a13 a14 a15).H0 ((dioA a0 a1 a2 a3 a4 a5 a6 a7 a8 a9 a10 a11 a12 a13 a14 a15).rh v ++ (dioA a0 a1 a2 a3 a4 a5 a6 a7 a8 a9 a10 a11 a12 a13 a14 a15).rx v)) ((dioA a0 a1 a2 a3 a4 a5 a6 a7 a8 a9 a10 a11 a12 a13 a14 a15).rn v) :=
  AF.ctr try_ok hM (diook a0 a1 a2 a3 a4 a5 a6 a7 a8 a9 a10 a11 a12 a13 a14 a15) (fn := Try.f76) Try.func76 rfl rfl (Nat.le_of_ble_eq_true rfl) rfl (diohR a0 a1 a2 a3 a4 a5 a6 a7 a8 a9 a10 a11 a12 a13 a14 a15 hM) hv
theorem diomem {ρ : Env} : MemoOk Try.prog (ctxOf Try.prog (memoS 60 xalP xalF xalW xalH 1 memo0)) ρ := (memoS_ok (xalknown xalmem) memo0_ok)
abbrev dioP : List AQ := [.agg [.bool, .int .i64, .int .i64, .int .i64, .int .i64, .rows [some .i64, some .i64], .rows [some .i64, some .i64, some .i64, some .i64], .int .i64], .rows [some .i64]]
noncomputable def dioF (v : AW) : AF dioN dioR := dioA (v.b.getD 0 false) (v.i.getD 0 0) (v.i.getD 1 0) (v.i.getD 2 0) (v.i.getD 3 0) (v.t.getD 0 .none).n ((v.t.getD 0 .none).c 0) ((v.t.getD 0 .none).c 1) (v.t.getD 1 .none).n ((v.t.getD 1 .none).c 0) ((v.t.getD 1 .none).c 1) ((v.t.getD 1 .none).c 2) ((v.t.getD 1 .none).c 3) (v.i.getD 4 0) (v.t.getD 2 .none).n ((v.t.getD 2 .none).c 0)
noncomputable def dioW : dioR → CV := fun v => .bool (.x v)
noncomputable def dioH : dioR → List (Nat × Blk) := fun v => []
instance : Inhabited dioR := ⟨false⟩
theorem dioknown {ρ : Env} (hM : MemoOk Try.prog (ctxOf Try.prog (memoS 60 xalP xalF xalW xalH 1 memo0)) ρ) : KnownS Try.prog ρ 76 dioP dioF dioW dioH 3 where
  fn := ⟨Try.f76, Try.func76, rfl⟩
  le := Nat.le_of_ble_eq_true rfl
  full := fun r => rfl
  rg := fun r => rfl
  hg := fun r => fa_nil
  ctr := fun v n r h => dioctr (v.b.getD 0 false) (v.i.getD 0 0) (v.i.getD 1 0) (v.i.getD 2 0) (v.i.getD 3 0) (v.t.getD 0 .none).n ((v.t.getD 0 .none).c 0) ((v.t.getD 0 .none).c 1) (v.t.getD 1 .none).n ((v.t.getD 1 .none).c 0) ((v.t.getD 1 .none).c 1) ((v.t.getD 1 .none).c 2) ((v.t.getD 1 .none).c 3) (v.i.getD 4 0) (v.t.getD 2 .none).n ((v.t.getD 2 .none).c 0) hM h
end Go.Proofs.Ythagjhadjpangaa.Cx

/- (acme/die.shop).validPlan as an automaton. Made by tools/cxauto.py. -/
namespace Go.Proofs.Ythagjhadjpangaa.Cx
set_option linter.unusedVariables false
set_option linter.unusedSimpArgs false
set_option maxRecDepth 100000
open Go Go.Proofs Go.RowKit
noncomputable abbrev dvpCode : Code := funcCode Try.f75
inductive dvpN where
  | n0
  | n1 (p0 p1 : Nat) (p2 : Int) (p3 p4 : Nat → Int)
abbrev dvpR := Bool
noncomputable def dvpD0 (a0 : Bool) (a1 a2 a3 a4 : Int) (a5 : Nat) (a6 a7 : Nat → Int) (a8 : Nat) (a9 a10 a11 a12 : Nat → Int) (a13 : Int) (a14 : Nat) (a15 a16 : Nat → Int) : DD (Lf dvpN dvpR) :=
 .leaf (.next (.n0) [3])

noncomputable def dvpD (a0 : Bool) (a1 a2 a3 a4 : Int) (a5 : Nat) (a6 a7 : Nat → Int) (a8 : Nat) (a9 a10 a11 a12 : Nat → Int) (a13 : Int) (a14 : Nat) (a15 a16 : Nat → Int) : dvpN → DD (Lf dvpN dvpR)
 | .n0 =>
 let z0 := fun i => [CV.int IntKind.i64 (IE.x (a6 (0 + i))), CV.int IntKind.i64 (IE.x (a7 (0 + i)))]
 let z1 := fun i => [CV.int IntKind.i64 (IE.x (a9 (0 + i))), CV.int IntKind.i64 (IE.x (a10 (0 + i))), CV.int IntKind.i64 (IE.x (a11 (0 + i))), CV.int IntKind.i64 (IE.x (a12 (0 + i)))]
 let z2 := dioA a0 a1 a2 a3 a4 a5 (fun i => a6 (0 + i)) (fun i => a7 (0 + i)) a8 (fun i => a9 (0 + i)) (fun i => a10 (0 + i)) (fun i => a11 (0 + i)) (fun i => a12 (0 + i)) a13 0 (fun i => 0)
 .ask (Cm.run .lss 0 (↑a14 : Int))
   (.must (true)
   (.must (decide (0 < (↑a14 : Int)))
   (.must (decide (0 + Int.toNat 0 < a14))
   (.leaf (.next (.n1 1 1 1 (fun i => a15 (0 + Int.toNat 0)) (fun i => a16 (0 + Int.toNat 0))) [3, 6, 8])))))
   (.must (decide (0 + a5 ≤ a5))
   (.must (ShapeOk [some IntKind.i64, some IntKind.i64] (tabOf a5 z0) z0)
   (.must (decide (0 + a8 ≤ a8))
   (.must (ShapeOk [some IntKind.i64, some IntKind.i64, some IntKind.i64, some IntKind.i64] (tabOf a8 z1) z1)
   (.must (AF.fin z2)
   (.ask (AF.val z2)
   (.must (AF.fin (xalA (-10000000000) 20000000000 0 (fun i => 0)))
   (.leaf (.done (AF.val (xalA (-10000000000) 20000000000 0 (fun i => 0))) [])))
   (.leaf (.done false []))))))))
 | .n1 p0 p1 p2 p3 p4 =>
 let z0 := decide (0 + p0 ≤ p0)
 let z1 := decide (0 + p1 ≤ p1)
 let z2 := fun i => [CV.int IntKind.i64 (IE.x (a6 (0 + i))), CV.int IntKind.i64 (IE.x (a7 (0 + i)))]
 let z3 := fun i => [CV.int IntKind.i64 (IE.x (a9 (0 + i))), CV.int IntKind.i64 (IE.x (a10 (0 + i))), CV.int IntKind.i64 (IE.x (a11 (0 + i))), CV.int IntKind.i64 (IE.x (a12 (0 + i)))]
 let z4 := fun i => [CV.int IntKind.i64 (IE.x (p3 (0 + i)))]
 let z5 := dioA a0 a1 a2 a3 a4 a5 (fun i => a6 (0 + i)) (fun i => a7 (0 + i)) a8 (fun i => a9 (0 + i)) (fun i => a10 (0 + i)) (fun i => a11 (0 + i)) (fun i => a12 (0 + i)) a13 p0 (fun i => p3 (0 + i))
 let z6 := fun i => [CV.int IntKind.i64 (IE.x (p4 (0 + i)))]
 let z7 := xalA (-10000000000) 20000000000 p1 (fun i => p4 (0 + i))
 .ask (Cm.run .lss p2 (↑a14 : Int))
   (.must (decide (0 ≤ p2))
   (.must (decide (p2 < (↑a14 : Int)))
   (.must (decide (0 + Int.toNat p2 < a14))
   (.must z0
   (.must (decide (p0 + 1 ≤ 10000))
   (.must z1
   (.must (decide (p1 + 1 ≤ 10000))
   (.leaf (.next (.n1 (p0 + 1) (p1 + 1) (Ar.run .add .i64 p2 1) (fun i => bif Nat.blt i p0 then p3 (0 + i) else a15 (0 + Int.toNat p2)) (fun i => bif Nat.blt i p1 then p4 (0 + i) else a16 (0 + Int.toNat p2))) [3, 8, 10])))))))))
   (.must (decide (0 + a5 ≤ a5))
   (.must (ShapeOk [some IntKind.i64, some IntKind.i64] (tabOf a5 z2) z2)
   (.must (decide (0 + a8 ≤ a8))
   (.must (ShapeOk [some IntKind.i64, some IntKind.i64, some IntKind.i64, some IntKind.i64] (tabOf a8 z3) z3)
   (.must z0
   (.must (ShapeOk [some IntKind.i64] (tabOf p0 z4) z4)
   (.must (decide (p0 ≤ p0))
   (.must (AF.fin z5)
   (.ask (AF.val z5)
   (.must z1
   (.must (ShapeOk [some IntKind.i64] (tabOf p1 z6) z6)
   (.must (decide (p1 ≤ p1))
   (.must (AF.fin z7)
   (.leaf (.done (AF.val z7) []))))))
   (.leaf (.done false [])))))))))))

noncomputable def dvpA (a0 : Bool) (a1 a2 a3 a4 : Int) (a5 : Nat) (a6 a7 : Nat → Int) (a8 : Nat) (a9 a10 a11 a12 : Nat → Int) (a13 : Int) (a14 : Nat) (a15 a16 : Nat → Int) : AF dvpN dvpR where
  code := dvpCode
  base := 3
  nt := 39
  m := 400
  un := []
  W := []
  h0 := [(0, ⟨.arg a5 2 (fun i => [.int .i64 (.x (a6 i)), .int .i64 (.x (a7 i))]) (fun _ => ⟨rfl, rfl⟩), 2, true, none⟩), (1, ⟨.arg a8 4 (fun i => [.int .i64 (.x (a9 i)), .int .i64 (.x (a10 i)), .int .i64 (.x (a11 i)), .int .i64 (.x (a12 i))]) (fun _ => ⟨rfl, rfl⟩), 4, true, none⟩), (2, ⟨.arg a14 2 (fun i => [.int .i64 (.x (a15 i)), .int .i64 (.x (a16 i))]) (fun _ => ⟨rfl, rfl⟩), 2, true, none⟩)]
  args := [.agg [.bool (.x a0), .int .i64 (.x a1), .int .i64 (.x a2), .int .i64 (.x a3), .int .i64 (.x a4), .sla 0 2 0 a5, .sla 1 4 0 a8, .int .i64 (.x a13)], .sla 2 2 0 a14]
  res := (Try.f75).results.toList
  path := fun a => match a with
   | .n0 => [1, 1, 0, 1, 0]
   | .n1 p0 p1 p2 p3 p4 => [1, 1, 0, 1, 0]
  pd := fun a => match a with
   | .n0 => ⟨[(2, .ptr (some (3, 0))), (5, .slc none 0 0), (6, .slc none 0 0), (10, .sla 2 2 0 a14), (11, .int .i64 (.x (↑a14))), (12, .int .i64 (.x 0))], [(3, ⟨.lit [.bool (.x a0), .int .i64 (.x a1), .int .i64 (.x a2), .int .i64 (.x a3), .int .i64 (.x a4), .sla 0 2 0 a5, .sla 1 4 0 a8, .int .i64 (.x a13)], 0, true, none⟩)], 4, []⟩
   | .n1 p0 p1 p2 p3 p4 => ⟨[(2, .ptr (some (3, 0))), (5, .slx 4 1 0 p0 p0), (6, .slx 5 1 0 p1 p1), (10, .sla 2 2 0 a14), (11, .int .i64 (.x (↑a14))), (12, .int .i64 (.x p2))], [(3, ⟨.lit [.bool (.x a0), .int .i64 (.x a1), .int .i64 (.x a2), .int .i64 (.x a3), .int .i64 (.x a4), .sla 0 2 0 a5, .sla 1 4 0 a8, .int .i64 (.x a13)], 0, true, none⟩), (4, ⟨.rows p0 1 (fun i => [.int .i64 (.x (p3 i))]) (fun _ => ⟨rfl, rfl⟩), 1, true, none⟩), (5, ⟨.rows p1 1 (fun i => [.int .i64 (.x (p4 i))]) (fun _ => ⟨rfl, rfl⟩), 1, true, none⟩)], 6, []⟩
  D0 := dvpD0 a0 a1 a2 a3 a4 a5 a6 a7 a8 a9 a10 a11 a12 a13 a14 a15 a16
  D := dvpD a0 a1 a2 a3 a4 a5 a6 a7 a8 a9 a10 a11 a12 a13 a14 a15 a16
  rc := (fun v => .bool (.x v))
  rh := (fun v => [])
  rn := (fun v => 3)
  rx := (fun v => [])
  rgo := (fun _ => none)
theorem dvpstart (a0 : Bool) (a1 a2 a3 a4 : Int) (a5 : Nat) (a6 a7 : Nat → Int) (a8 : Nat) (a9 a10 a11 a12 : Nat → Int) (a13 : Int) (a14 : Nat) (a15 a16 : Nat → Int) : AF.edgeOk (dvpA a0 a1 a2 a3 a4 a5 a6 a7 a8 a9 a10 a11 a12 a13 a14 a15 a16) (ctxOf Try.prog memo0) (dvpD0 a0 a1 a2 a3 a4 a5 a6 a7 a8 a9 a10 a11 a12 a13 a14 a15 a16) (AF.run0 (dvpA a0 a1 a2 a3 a4 a5 a6 a7 a8 a9 a10 a11 a12 a13 a14 a15 a16) (ctxOf Try.prog (memoS 76 dioP dioF dioW dioH 3 (memoS 60 xalP xalF xalW xalH 1 memo0)))) := by unfold AF.edgeOk; kernel_rfl
theorem dvpnode0 (a0 : Bool) (a1 a2 a3 a4 : Int) (a5 : Nat) (a6 a7 : Nat → Int) (a8 : Nat) (a9 a10 a11 a12 : Nat → Int) (a13 : Int) (a14 : Nat) (a15 a16 : Nat → Int) : AF.edgeOk (dvpA a0 a1 a2 a3 a4 a5 a6 a7 a8 a9 a10 a11 a12 a13 a14 a15 a16) (ctxOf Try.prog memo0) (dvpD a0 a1 a2 a3 a4 a5 a6 a7 a8 a9 a10 a11 a12 a13 a14 a15 a16 (.n0)) (AF.runN (dvpA a0 a1 a2 a3 a4 a5 a6 a7 a8 a9 a10 a11 a12 a13 a14 a15 a16) (ctxOf Try.prog (memoS 76 dioP dioF dioW dioH 3 (memoS 60 xalP xalF xalW xalH 1 memo0))) (.n0)) := by unfold AF.edgeOk; kernel_rfl
theorem dvpnode1 (a0 : Bool) (a1 a2 a3 a4 : Int) (a5 : Nat) (a6 a7 : Nat → Int) (a8 : Nat) (a9 a10 a11 a12 : Nat → Int) (a13 : Int) (a14 : Nat) (a15 a16 : Nat → Int) (p0 p1 : Nat) (p2 : Int) (p3 p4 : Nat → Int) : AF.edgeOk (dvpA a0 a1 a2 a3 a4 a5 a6 a7 a8 a9 a10 a11 a12 a13 a14 a15 a16) (ctxOf Try.prog memo0) (dvpD a0 a1 a2 a3 a4 a5 a6 a7 a8 a9 a10 a11 a12 a13 a14 a15 a16 (.n1 p0 p1 p2 p3 p4)) (AF.runN (dvpA a0 a1 a2 a3 a4 a5 a6 a7 a8 a9 a10 a11 a12 a13 a14 a15 a16) (ctxOf Try.prog (memoS 76 dioP dioF dioW dioH 3 (memoS 60 xalP xalF xalW xalH 1 memo0))) (.n1 p0 p1 p2 p3 p4)) := by unfold AF.edgeOk; kernel_rfl
theorem dvpok (a0 : Bool) (a1 a2 a3 a4 : Int) (a5 : Nat) (a6 a7 : Nat → Int) (a8 : Nat) (a9 a10 a11 a12 : Nat → Int) (a13 : Int) (a14 : Nat) (a15 a16 : Nat → Int) : (dvpA a0 a1 a2 a3 a4 a5 a6 a7 a8 a9 a10 a11 a12 a13 a14 a15 a16).Ok Try.prog (ctxOf Try.prog (memoS 76 dioP dioF dioW dioH 3 (memoS 60 xalP xalF xalW xalH 1 memo0))) where
  regs := by kernel_rfl
  h0 := by kernel_rfl
  start := dvpstart a0 a1 a2 a3 a4 a5 a6 a7 a8 a9 a10 a11 a12 a13 a14 a15 a16
  node := fun a _ => match a with
   | .n0 => dvpnode0 a0 a1 a2 a3 a4 a5 a6 a7 a8 a9 a10 a11 a12 a13 a14 a15 a16
   | .n1 p0 p1 p2 p3 p4 => dvpnode1 a0 a1 a2 a3 a4 a5 a6 a7 a8 a9 a10 a11 a12 a13 a14 a15 a16 p0 p1 p2 p3 p4
  pd := fun a => match a with
   | .n0 => ⟨(fa_cons rfl (fa_cons rfl (fa_cons rfl (fa_cons rfl (fa_cons rfl (fa_cons rfl fa_nil)))))), (fa_cons ⟨.inl (Nat.le_of_ble_eq_true rfl), rfl, rfl⟩ fa_nil), fa_nil, rfl⟩
   | .n1 p0 p1 p2 p3 p4 => ⟨(fa_cons rfl (fa_cons rfl (fa_cons rfl (fa_cons rfl (fa_cons rfl (fa_cons rfl fa_nil)))))), (fa_cons ⟨.inl (Nat.le_of_ble_eq_true rfl), rfl, rfl⟩ (fa_cons ⟨.inl (Nat.le_of_ble_eq_true rfl), (fun _ => rfl), rfl⟩ (fa_cons ⟨.inl (Nat.le_of_ble_eq_true rfl), (fun _ => rfl), rfl⟩ fa_nil))), fa_nil, rfl⟩
  le := fun a => match a with
   | .n0 => Nat.le_of_ble_eq_true rfl
   | .n1 p0 p1 p2 p3 p4 => Nat.le_of_ble_eq_true rfl
  rd := fun v => ⟨⟨fa_nil, fa_nil, fa_nil, rfl⟩, rfl⟩
  wb := rfl
theorem dvphR {ρ : Env} (a0 : Bool) (a1 a2 a3 a4 : Int) (a5 : Nat) (a6 a7 : Nat → Int) (a8 : Nat) (a9 a10 a11 a12 : Nat → Int) (a13 : Int) (a14 : Nat) (a15 a16 : Nat → Int) (hM : MemoOk Try.prog (ctxOf Try.prog (memoS 76 dioP dioF dioW dioH 3 (memoS 60 xalP xalF xalW xalH 1 memo0))) ρ) : ∀ X a q n D, FxOk ρ X → X.base = (dvpA a0 a1 a2 a3 a4 a5 a6 a7 a8 a9 a10 a11 a12 a13 a14 a15 a16).base → X.nt = (dvpA a0 a1 a2 a3 a4 a5 a6 a7 a8 a9 a10 a11 a12 a13 a14 a15 a16).nt → X.W = (dvpA a0 a1 a2 a3 a4 a5 a6 a7 a8 a9 a10 a11 a12 a13 a14 a15 a16).W → (dvpA a0 a1 a2 a3 a4 a5 a6 a7 a8 a9 a10 a11 a12 a13 a14 a15 a16).rgo a = some q → q n = some D → (dvpA a0 a1 a2 a3 a4 a5 a6 a7 a8 a9 a10 a11 a12 a13 a14 a15 a16).RangeOk Try.prog ρ X a D := AF.noRange rfl
theorem dvpctr {ρ : Env} (a0 : Bool) (a1 a2 a3 a4 : Int) (a5 : Nat) (a6 a7 : Nat → Int) (a8 : Nat) (a9 a10 a11 a12 : Nat → Int) (a13 : Int) (a14 : Nat) (a15 a16 : Nat → Int) {n : Nat} {v : dvpR} (hM : MemoOk Try.prog (ctxOf Try.prog (memoS 76 dioP dioF dioW dioH 3 (memoS 60 xalP xalF xalW xalH 1 memo0))) ρ) (hv : (dvpA a0 a1 a2 a3 a4 a5 a6 a7 a8 a9 a10 a11 a12 a13 a14 a15 a16).run n = some v) :
    Ctr Try.prog ρ 75 (dvpA a0 a1 a2 a3 a4 a5 a6 a7 a8 a9 a10 a11 a12 a13 a14 a15 a16).args (dvpA a0 a1 a2 a3 a4 a5 a6 a7 a8 a9 a10 a11 a12 a13 a14 a15 a16).H0 (dvpA a0 a1 a2 a3 a4 a5 a6 a7 a8 a9 a10 a11 a12 a13 a14 a15 a16).base (dvpA a0 a1 a2 a3 a4 a5 a6 a7 a8 a9 a10 a11 a12 a13 a14 a15 a16).W ((dvpA a0 a1 a2 a3 a4 a5 a6 a7 a8 a9 a10 a11 a12 a13 a14 a15 a16).rc v) (putH (dvpA a0 a1 a2 a3 a4 a5 a6 a7 a8 a9 a10 a11 a12 a13 a14 a15 a16).H0 ((dvpA a0 a1 a2 a3 a4 a5 a6 a7 a8 a9 a10 a11 a12 a13 a14 a15 a16).rh v ++ (dvpA a0 a1 a2 a3 a4 a5 a6 a7 a8 a9 a10 a11 a12 a13 a14 a15 a16).rx v)) ((dvpA a0 a1 a2 a3 a4 a5 a6 a7 a8 a9 a10 a11 a12 a13 a14 a15 a16).rn v) :=
  AF.ctr try_ok hM (dvpok a0 a1 a2 a3 a4 a5 a6 a7 a8 a9 a10 a11 a12 a13 a14 a15 a16) (fn := Try.f75) Try.func75 rfl rfl (Nat.le_of_ble_eq_true rfl) rfl (dvphR a0 a1 a2 a3 a4 a5 a6 a7 a8 a9 a10 a11 a12 a13 a14 a15 a16 hM) hv
theorem dvpmem {ρ : Env} : MemoOk Try.prog (ctxOf Try.prog (memoS 76 dioP dioF dioW dioH 3 (memoS 60 xalP xalF xalW xalH 1 memo0))) ρ := (memoS_ok (dioknown diomem) (memoS_ok (xalknown xalmem) memo0_ok))
abbrev dvpP : List AQ := [.agg [.bool, .int .i64, .int .i64, .int .i64, .int .i64, .rows [some .i64, some .i64], .rows [some .i64, some .i64, some .i64, some .i64], .int .i64], .rows [some .i64, some .i64]]
noncomputable def dvpF (v : AW) : AF dvpN dvpR := dvpA (v.b.getD 0 false) (v.i.getD 0 0) (v.i.getD 1 0) (v.i.getD 2 0) (v.i.getD 3 0) (v.t.getD 0 .none).n ((v.t.getD 0 .none).c 0) ((v.t.getD 0 .none).c 1) (v.t.getD 1 .none).n ((v.t.getD 1 .none).c 0) ((v.t.getD 1 .none).c 1) ((v.t.getD 1 .none).c 2) ((v.t.getD 1 .none).c 3) (v.i.getD 4 0) (v.t.getD 2 .none).n ((v.t.getD 2 .none).c 0) ((v.t.getD 2 .none).c 1)
noncomputable def dvpW : dvpR → CV := fun v => .bool (.x v)
noncomputable def dvpH : dvpR → List (Nat × Blk) := fun v => []
instance : Inhabited dvpR := ⟨false⟩
theorem dvpknown {ρ : Env} (hM : MemoOk Try.prog (ctxOf Try.prog (memoS 76 dioP dioF dioW dioH 3 (memoS 60 xalP xalF xalW xalH 1 memo0))) ρ) : KnownS Try.prog ρ 75 dvpP dvpF dvpW dvpH 3 where
  fn := ⟨Try.f75, Try.func75, rfl⟩
  le := Nat.le_of_ble_eq_true rfl
  full := fun r => rfl
  rg := fun r => rfl
  hg := fun r => fa_nil
  ctr := fun v n r h => dvpctr (v.b.getD 0 false) (v.i.getD 0 0) (v.i.getD 1 0) (v.i.getD 2 0) (v.i.getD 3 0) (v.t.getD 0 .none).n ((v.t.getD 0 .none).c 0) ((v.t.getD 0 .none).c 1) (v.t.getD 1 .none).n ((v.t.getD 1 .none).c 0) ((v.t.getD 1 .none).c 1) ((v.t.getD 1 .none).c 2) ((v.t.getD 1 .none).c 3) (v.i.getD 4 0) (v.t.getD 2 .none).n ((v.t.getD 2 .none).c 0) ((v.t.getD 2 .none).c 1) hM h
end Go.Proofs.Ythagjhadjpangaa.Cx

/- acme/acmeref07.Settings as an automaton. Made by tools/cxauto.py. -/
namespace Go.Proofs.Ythagjhadjpangaa.Cx
set_option linter.unusedVariables false
set_option linter.unusedSimpArgs false
set_option maxRecDepth 100000
open Go Go.Proofs Go.RowKit
abbrev rdsR := Int
instance : Inhabited rdsR := ⟨0⟩
end Go.Proofs.Ythagjhadjpangaa.Cx

/- acme/acmeref07.Pieces as an automaton. Made by tools/cxauto.py. -/
namespace Go.Proofs.Ythagjhadjpangaa.Cx
set_option linter.unusedVariables false
set_option linter.unusedSimpArgs false
set_option maxRecDepth 100000
open Go Go.Proofs Go.RowKit
abbrev rdcR := Bool
instance : Inhabited rdcR := ⟨false⟩
end Go.Proofs.Ythagjhadjpangaa.Cx

/- acme/die.Proves as an automaton. Made by tools/cxauto.py. -/
namespace Go.Proofs.Ythagjhadjpangaa.Cx
set_option linter.unusedVariables false
set_option linter.unusedSimpArgs false
set_option maxRecDepth 100000
open Go Go.Proofs Go.RowKit
abbrev dprR := Int × Int
instance : Inhabited dprR := ⟨(0, 0)⟩
end Go.Proofs.Ythagjhadjpangaa.Cx

/- acme/acmeref07.Proves as an automaton. Made by tools/cxauto.py. -/
namespace Go.Proofs.Ythagjhadjpangaa.Cx
set_option linter.unusedVariables false
set_option linter.unusedSimpArgs false
set_option maxRecDepth 100000
open Go Go.Proofs Go.RowKit
abbrev rdqR := Int
instance : Inhabited rdqR := ⟨0⟩
end Go.Proofs.Ythagjhadjpangaa.Cx

/- Package die: lists of numbers and settings: what is valid; Proves. -/
namespace Go.Proofs.Ythagjhadjpangaa.Cx
set_option linter.unusedVariables false
set_option linter.unusedSimpArgs false
set_option maxRecDepth 100000
set_option maxHeartbeats 4000000
open Go Go.RowKit
section
variable {a0 a1 : Int} {a2 : Nat} {a3 : Nat → Int}
theorem xal_val (hn : a2 ≤ 10000) : AF.fin (xalA a0 a1 a2 a3) = true ∧ (AF.val (xalA a0 a1 a2 a3) = true ↔ ∀ i : Nat, (i : Int) < a2 → a0 ≤ a3 i ∧ a3 i ≤ a1) := by
  have h : AF.fin (xixA a2 a3 a0 a1) = true ∧ ((AF.val (xixA a2 a3 a0 a1) = -1 ∧ ∀ i : Nat, (i : Int) < a2 → a0 ≤ a3 i ∧ a3 i ≤ a1) ∨ (0 ≤ AF.val (xixA a2 a3 a0 a1) ∧ ¬ ∀ i : Nat, (i : Int) < a2 → a0 ≤ a3 i ∧ a3 i ≤ a1)) := by
    refine find_val (P := fun i => a0 ≤ a3 i ∧ a3 i ≤ a1) xixN.n0 (fun b => match b with | .n0 p => p) (fun _ => rfl) a2 (fun _ => rfl) rfl fun p h0 h1 => ?_
    show DD.sat _ _ (xixD a2 a3 a0 a1 (.n0 p))
    unfold xixD
    have e1 : Ar.run .add .i64 p 1 = p + 1 := arAdd (by omega)
    have e4 : ((p.toNat : Nat) : Int) = p := Int.toNat_of_nonneg h0
    simp only [DD.sat, Nat.zero_add, e1, cmLss, cmLssF, cmGtr, cmGtrF, decide_eq_true_eq, true_and]
    generalize a3 p.toNat = L
    repeat' (first | intro _ | apply And.intro)
    all_goals omega
  have hc : AF.fin (xcfA a2 a3 a0 a1) = true ∧ (AF.val (xcfA a2 a3 a0 a1) = true ↔ ¬ ∀ i : Nat, (i : Int) < a2 → a0 ≤ a3 i ∧ a3 i ≤ a1) := by
    refine flat_val (E := fun v => v = true ↔ ¬ ∀ i : Nat, (i : Int) < a2 → a0 ≤ a3 i ∧ a3 i ≤ a1) (fun _ => rfl) ?_
    show DD.sat _ _ (xcfD0 a2 a3 a0 a1)
    unfold xcfD0
    simp only [DD.sat, Nat.zero_add, cmGeq, cmGeqF, decide_eq_true_eq]
    refine ⟨Nat.le_refl _, shape_ok fun i _ => rfl, h.1, fun hv => ?_, fun hv => ?_⟩
    · have hv : 0 ≤ AF.val (xixA a2 a3 a0 a1) := hv
      rcases h.2 with h | h
      · rw [h.1] at hv; exact absurd hv (by decide)
      · exact ⟨fun _ => h.2, fun _ => trivial⟩
    · have hv : AF.val (xixA a2 a3 a0 a1) < 0 := hv
      rcases h.2 with h | h
      · exact ⟨fun k => (by cases k), fun k => absurd h.2 k⟩
      · exact absurd hv (Int.not_lt.2 h.1)
  refine flat_val (E := fun v => v = true ↔ ∀ i : Nat, (i : Int) < a2 → a0 ≤ a3 i ∧ a3 i ≤ a1) (fun _ => rfl) ?_
  show DD.sat _ _ (xalD0 a0 a1 a2 a3)
  unfold xalD0
  simp only [DD.sat, Nat.zero_add, decide_eq_true_eq]
  refine ⟨Nat.le_refl _, shape_ok fun i _ => rfl, hc.1, ?_⟩
  have h2 : AF.val (xcfA a2 (fun i => a3 i) a0 a1) = true ↔ ¬ ∀ i : Nat, (i : Int) < a2 → a0 ≤ a3 i ∧ a3 i ≤ a1 := hc.2
  rw [Bool.not_eq_true', ← Bool.not_eq_true, h2, Classical.not_not]
end
/-- Numbers of pieces, in strictly ascending order. -/
def OrdS (n : Nat) (F : Nat → Int) (T : Int) : Prop := (∀ i, i < n → 0 ≤ F i ∧ F i < T) ∧ ∀ i, i + 1 < n → F i < F (i + 1)
theorem OrdS.asc {n : Nat} {F : Nat → Int} {T : Int} (h : OrdS n F T) {i : Nat} : ∀ j, i < j → j < n → F i < F j
  | 0, h1, _ => by omega
  | j + 1, h1, h2 => by
    have a := h.2 j h2
    by_cases he : i = j
    · rw [he]; exact a
    · have := h.asc (i := i) j (by omega) (by omega)
      omega
theorem OrdS.cast {n : Nat} {F F' : Nat → Int} {T : Int} (hF : ∀ i, i < n → F' i = F i) : OrdS n F' T ↔ OrdS n F T := by
  unfold OrdS
  constructor <;> rintro ⟨h1, h2⟩ <;> refine ⟨fun i hi => ?_, fun i hi => ?_⟩
  · rw [← hF i hi]; exact h1 i hi
  · rw [← hF i (by omega), ← hF (i + 1) hi]; exact h2 i hi
  · rw [hF i hi]; exact h1 i hi
  · rw [hF i (by omega), hF (i + 1) hi]; exact h2 i hi
section
variable {a0 : Bool} {a1 a2 a3 a4 : Int} {a5 : Nat} {a6 a7 : Nat → Int} {a8 : Nat} {a9 a10 a11 a12 : Nat → Int} {a13 : Int} {a14 : Nat} {a15 a16 : Nat → Int}
theorem dio_val (hT : 0 ≤ a13 ∧ a13 ≤ 1000000000) (hn : a14 ≤ 10000) : AF.fin (dioA a0 a1 a2 a3 a4 a5 a6 a7 a8 a9 a10 a11 a12 a13 a14 a15) = true ∧ (AF.val (dioA a0 a1 a2 a3 a4 a5 a6 a7 a8 a9 a10 a11 a12 a13 a14 a15) = true ↔ OrdS a14 a15 a13) := by
  have hx := xal_val (a0 := 0) (a1 := a13 - 1) (a2 := a14) (a3 := a15) hn
  refine AF.val_sat (E := fun v => v = true ↔ OrdS a14 a15 a13) (Inv := fun b => match b with | .n0 p0 p1 => 0 ≤ p1 ∧ p1 ≤ a14 ∧ (p1 = 0 → p0 = -1) ∧ (0 < p1 → p0 = a15 (p1 - 1).toNat) ∧ (∀ i : Nat, (i : Int) < p1 → -1 < a15 i) ∧ ∀ i : Nat, (i : Int) + 1 < p1 → a15 i < a15 (i + 1))
    (fun b => match b with | .n0 p0 p1 => (a14 - p1).toNat) (fun _ => rfl) (fun a hI => ?_) ?_
  · cases a with
    | n0 p0 p1 =>
      obtain ⟨g0, g1, g2, g3, g4, g5⟩ := hI
      show DD.sat _ _ (dioD a0 a1 a2 a3 a4 a5 a6 a7 a8 a9 a10 a11 a12 a13 a14 a15 (.n0 p0 p1))
      unfold dioD
      have e1 : p1 < a14 → Ar.run .add .i64 p1 1 = p1 + 1 := fun h => arAdd (by omega)
      have e2 : Ar.run .sub .i64 a13 1 = a13 - 1 := arSub (by omega)
      have hxE : AF.val (xalA 0 (a13 - 1) a14 (fun i => a15 i)) = true ↔ ∀ i : Nat, (i : Int) < a14 → 0 ≤ a15 i ∧ a15 i ≤ a13 - 1 := hx.2
      simp only [DD.sat, Nat.zero_add, cmLss, cmLssF, cmLeq, cmLeqF, cmGtr, cmGtrF, cmGeq, cmGeqF, cmEql, cmEqlF, cmNeq, cmNeqF, decide_eq_true_eq, Bool.not_eq_true', Bool.not_eq_false', e2]
      refine ⟨fun hp => ⟨g0, hp, by omega, fun hl => ⟨fun k => (by cases k), fun k => ?_⟩, fun hl => ?_⟩, fun hp => ⟨Nat.le_refl _, shape_ok fun i _ => rfl, hx.1, ?_⟩⟩
      · exfalso
        by_cases hz : p1 = 0
        · have := (k.1 p1.toNat (by omega)).1
          rw [g2 hz] at hl
          omega
        · have := k.2 (p1 - 1).toNat (by omega)
          rw [g3 (by omega)] at hl
          rw [show (p1 - 1).toNat + 1 = p1.toNat by omega] at this
          omega
      · rw [e1 hp]
        refine ⟨⟨by omega, by omega, fun hx => by omega, fun _ => by rw [show (p1 + 1 - 1).toNat = p1.toNat by omega], fun i hi => ?_, fun i hi => ?_⟩, by omega⟩
        · by_cases he : (i : Int) < p1
          · exact g4 i he
          · obtain rfl : i = p1.toNat := by omega
            by_cases hz : p1 = 0
            · rw [g2 hz] at hl; exact hl
            · have := g4 (p1 - 1).toNat (by omega)
              rw [g3 (by omega)] at hl
              omega
        · by_cases he : (i : Int) + 1 < p1
          · exact g5 i he
          · have hi' : i + 1 = p1.toNat := by omega
            rw [hi']
            rw [g3 (by omega)] at hl
            rw [show i = (p1 - 1).toNat by omega]
            exact hl
      · rw [hxE]
        obtain rfl : p1 = a14 := by omega
        exact ⟨fun k => ⟨fun i hi => by have := k i (by omega); omega, fun i hi => g5 i (by omega)⟩, fun k i hi => by have := k.1 i (by omega); omega⟩
  · exact ⟨Int.le_refl _, by omega, fun _ => rfl, fun hx => by omega, fun i hi => by omega, fun i hi => by omega⟩
/-- Valid settings. -/
def SetS (n : Nat) (F G : Nat → Int) (T : Int) : Prop := OrdS n F T ∧ ∀ i : Nat, (i : Int) < n → -10000000000 ≤ G i ∧ G i ≤ 20000000000
theorem dvp_val (hT : 0 ≤ a13 ∧ a13 ≤ 1000000000) (hn : a14 ≤ 1000) : AF.fin (dvpA a0 a1 a2 a3 a4 a5 a6 a7 a8 a9 a10 a11 a12 a13 a14 a15 a16) = true ∧ (AF.val (dvpA a0 a1 a2 a3 a4 a5 a6 a7 a8 a9 a10 a11 a12 a13 a14 a15 a16) = true ↔ SetS a14 a15 a16 a13) := by
  refine AF.val_sat (E := fun v => v = true ↔ SetS a14 a15 a16 a13) (Inv := fun b => match b with | .n0 => True | .n1 p0 p1 p2 p3 p4 => p1 = p0 ∧ p2 = p0 ∧ p0 ≤ a14 ∧ (∀ i, i < p0 → p3 i = a15 i) ∧ ∀ i, i < p0 → p4 i = a16 i)
    (fun b => match b with | .n0 => a14 + 1 | .n1 p0 p1 p2 p3 p4 => a14 - p0) (fun _ => rfl) (fun a hI => ?_) ?_
  · cases a with
    | n0 =>
      have h1 := dio_val (a0 := a0) (a1 := a1) (a2 := a2) (a3 := a3) (a4 := a4) (a5 := a5) (a6 := a6) (a7 := a7) (a8 := a8) (a9 := a9) (a10 := a10) (a11 := a11) (a12 := a12) (a13 := a13) (a14 := 0) (a15 := fun _ => 0) hT (by omega)
      have h2 := xal_val (a0 := -10000000000) (a1 := 20000000000) (a2 := 0) (a3 := fun _ => 0) (by omega)
      have h1E : AF.val (dioA a0 a1 a2 a3 a4 a5 (fun i => a6 i) (fun i => a7 i) a8 (fun i => a9 i) (fun i => a10 i) (fun i => a11 i) (fun i => a12 i) a13 0 (fun i => 0)) = true := h1.2.2 ⟨fun i hi => by omega, fun i hi => by omega⟩
      have h2E : AF.val (xalA (-10000000000) 20000000000 0 (fun i => 0)) = true := h2.2.2 fun i hi => by omega
      show DD.sat _ _ (dvpD a0 a1 a2 a3 a4 a5 a6 a7 a8 a9 a10 a11 a12 a13 a14 a15 a16 .n0)
      unfold dvpD
      simp only [DD.sat, Nat.zero_add, cmLss, cmLssF, cmLeq, cmLeqF, cmGtr, cmGtrF, cmGeq, cmGeqF, cmEql, cmEqlF, cmNeq, cmNeqF, decide_eq_true_eq, Bool.not_eq_true', Bool.not_eq_false', h1E, h2E]
      refine ⟨fun hp => ⟨trivial, hp, by omega, ⟨trivial, rfl, by omega, fun i hi => ?_, fun i hi => ?_⟩, by omega⟩, fun hp => ⟨Nat.le_refl _, shape_ok fun i _ => rfl, Nat.le_refl _, shape_ok fun i _ => rfl, h1.1, fun _ => ⟨h2.1, ?_⟩, fun hx => by cases hx⟩⟩
      · obtain rfl : i = 0 := by omega
        rfl
      · obtain rfl : i = 0 := by omega
        rfl
      · exact ⟨fun _ => ⟨⟨fun i hi => by omega, fun i hi => by omega⟩, fun i hi => by omega⟩, fun _ => trivial⟩
    | n1 p0 p1 p2 p3 p4 =>
      obtain ⟨rfl, rfl, g1, g2, g3⟩ := hI
      show DD.sat _ _ (dvpD a0 a1 a2 a3 a4 a5 a6 a7 a8 a9 a10 a11 a12 a13 a14 a15 a16 (.n1 p1 _ _ p3 p4))
      unfold dvpD
      have h1 := dio_val (a0 := a0) (a1 := a1) (a2 := a2) (a3 := a3) (a4 := a4) (a5 := a5) (a6 := a6) (a7 := a7) (a8 := a8) (a9 := a9) (a10 := a10) (a11 := a11) (a12 := a12) (a13 := a13) (a14 := p1) (a15 := p3) hT (by omega)
      have h2 := xal_val (a0 := -10000000000) (a1 := 20000000000) (a2 := p1) (a3 := p4) (by omega)
      by_cases hq : p1 < a14
      · have e1 : Ar.run .add .i64 (p1 : Int) 1 = ((p1 + 1 : Nat) : Int) := by rw [arAdd (by omega)]; omega
        simp only [DD.sat, Nat.zero_add, cmLss, cmLssF, cmLeq, cmLeqF, cmGtr, cmGtrF, cmGeq, cmGeqF, cmEql, cmEqlF, cmNeq, cmNeqF, decide_eq_true_eq, Bool.not_eq_true', Bool.not_eq_false', e1]
        refine ⟨fun _ => ⟨by omega, by omega, by omega, Nat.le_refl _, by omega, Nat.le_refl _, by omega, ⟨trivial, trivial, by omega, fun i hi => ?_, fun i hi => ?_⟩, by omega⟩, fun hx => by omega⟩
        · try dsimp only
          by_cases he : i < p1
          · rw [bif_lt he]; exact g2 i he
          · obtain rfl : i = p1 := by omega
            rw [bif_ge]; rfl
        · try dsimp only
          by_cases he : i < p1
          · rw [bif_lt he]; exact g3 i he
          · obtain rfl : i = p1 := by omega
            rw [bif_ge]; rfl
      · obtain rfl : p1 = a14 := by omega
        have o := (OrdS.cast (T := a13) g2)
        have c1 : AF.val (dioA a0 a1 a2 a3 a4 a5 (fun i => a6 i) (fun i => a7 i) a8 (fun i => a9 i) (fun i => a10 i) (fun i => a11 i) (fun i => a12 i) a13 p1 (fun i => p3 i)) = true ↔ OrdS p1 a15 a13 := h1.2.trans o
        have c2 : AF.val (xalA (-10000000000) 20000000000 p1 (fun i => p4 i)) = true ↔ ∀ i : Nat, (i : Int) < p1 → -10000000000 ≤ a16 i ∧ a16 i ≤ 20000000000 := h2.2.trans ⟨fun k i hi => by rw [← g3 i (by omega)]; exact k i hi, fun k i hi => by rw [g3 i (by omega)]; exact k i hi⟩
        simp only [DD.sat, Nat.zero_add, cmLss, cmLssF, cmLeq, cmLeqF, cmGtr, cmGtrF, cmGeq, cmGeqF, cmEql, cmEqlF, cmNeq, cmNeqF, decide_eq_true_eq, Bool.not_eq_true', Bool.not_eq_false']
        refine ⟨fun hx => by omega, fun _ => ⟨Nat.le_refl _, shape_ok fun i _ => rfl, Nat.le_refl _, shape_ok fun i _ => rfl, Nat.le_refl _, shape_ok fun i _ => rfl, Nat.le_refl _, h1.1, fun hv => ⟨Nat.le_refl _, shape_ok fun i _ => rfl, Nat.le_refl _, h2.1, ?_⟩, fun hv => ⟨fun k => (by cases k), fun k => ?_⟩⟩⟩
        · rw [c2]
          exact ⟨fun k => ⟨c1.1 hv, k⟩, fun k => k.2⟩
        · rw [c1.2 k.1] at hv
          cases hv
  · show True
    trivial
end
section
variable {a0 : Nat} {a1 a2 a3 a4 : Nat → Int} {a5 : Nat} {a6 a7 : Nat → Int}
end
section
variable {a0 : Bool} {a1 a2 a3 a4 : Int} {a5 : Nat} {a6 a7 : Nat → Int} {a8 : Nat} {a9 a10 a11 a12 : Nat → Int} {a13 : Nat} {a14 : Nat → Int}
end
end Go.Proofs.Ythagjhadjpangaa.Cx

/- acme/die.Judge as an automaton. Made by tools/cxauto.py. -/
namespace Go.Proofs.Ythagjhadjpangaa.Cx
set_option linter.unusedVariables false
set_option linter.unusedSimpArgs false
set_option maxRecDepth 100000
open Go Go.Proofs Go.RowKit
noncomputable abbrev djuCode : Code := funcCode Try.f34
inductive djuN where
  | n0 (p0 : Int) (p1 : Bool) (p2 p3 p4 p5 : Int) (p6 p7 : Nat) (p8 : Int)
abbrev djuR := Int × Int
noncomputable def djuD0 (a0 : Bool) (a1 a2 a3 a4 : Int) (a5 : Nat) (a6 a7 : Nat → Int) (a8 : Nat) (a9 a10 a11 a12 : Nat → Int) (a13 : Nat) (a14 a15 : Nat → Int) : DD (Lf djuN djuR) :=
 let z0 := fun i => [CV.int IntKind.i64 (IE.x (a6 (0 + i))), CV.int IntKind.i64 (IE.x (a7 (0 + i)))]
 let z1 := fun i => [CV.int IntKind.i64 (IE.x (a9 (0 + i))), CV.int IntKind.i64 (IE.x (a10 (0 + i))), CV.int IntKind.i64 (IE.x (a11 (0 + i))), CV.int IntKind.i64 (IE.x (a12 (0 + i)))]
 let z2 := fun i => a6 (0 + i)
 let z3 := fun i => a7 (0 + i)
 let z4 := fun i => a9 (0 + i)
 let z5 := fun i => a10 (0 + i)
 let z6 := fun i => a11 (0 + i)
 let z7 := fun i => a12 (0 + i)
 let z8 := dshA a0 a1 a2 a3 a4 a5 z2 z3 a8 z4 z5 z6 z7
 let z9 := AF.val z8
 let z10 := dshw5 z9
 let z11 := dshw6 z9
 let z12 := fun i => [CV.int IntKind.i64 (IE.x (a14 (0 + i))), CV.int IntKind.i64 (IE.x (a15 (0 + i)))]
 let z13 := dshw0 z9
 let z14 := dshw1 z9
 let z15 := dshw2 z9
 let z16 := dshw3 z9
 let z17 := dshw4 z9
 let z18 := dshw7 z9
 let z19 := dvpA z13 z14 z15 z16 z17 z10 z2 z3 z11 z4 z5 z6 z7 z18 a13 (fun i => a14 (0 + i)) (fun i => a15 (0 + i))
 .must (decide (0 + a5 ≤ a5))
   (.must (ShapeOk [some IntKind.i64, some IntKind.i64] (tabOf a5 z0) z0)
   (.must (decide (0 + a8 ≤ a8))
   (.must (ShapeOk [some IntKind.i64, some IntKind.i64, some IntKind.i64, some IntKind.i64] (tabOf a8 z1) z1)
   (.must (AF.fin z8)
   (.ask (Cm.run .neq (dshw8 z9) 0)
   (.leaf (.done (0, dshw8 z9) []))
   (.ask (Cm.run .gtr ((↑a13 : Int)) 1000)
   (.leaf (.done (0, 5) []))
   (.must (decide (0 + dshw5 z9 ≤ a5))
   (.must (ShapeOk [some IntKind.i64, some IntKind.i64] (tabOf z10 z0) z0)
   (.must (decide (0 + dshw6 z9 ≤ a8))
   (.must (ShapeOk [some IntKind.i64, some IntKind.i64, some IntKind.i64, some IntKind.i64] (tabOf z11 z1) z1)
   (.must (decide (0 + a13 ≤ a13))
   (.must (ShapeOk [some IntKind.i64, some IntKind.i64] (tabOf a13 z12) z12)
   (.must (AF.fin z19)
   (.ask (!AF.val z19)
   (.leaf (.done (0, 2) []))
   (.ask (Cm.run .eql ((↑a13 : Int)) 0)
   (.leaf (.done (0, 0) []))
   (.must (true)
   (.must (decide (0 < (↑a13 : Int)))
   (.must (decide (0 + Int.toNat 0 < a13))
   (.ask (Cm.run .gtr (a14 (0 + Int.toNat 0)) 0)
   (.leaf (.done (0, 0) []))
   (.leaf (.next (.n0 0 z13 z14 z15 z16 z17 z10 z11 z18) [4])))))))))))))))))))))

noncomputable def djuD (a0 : Bool) (a1 a2 a3 a4 : Int) (a5 : Nat) (a6 a7 : Nat → Int) (a8 : Nat) (a9 a10 a11 a12 : Nat → Int) (a13 : Nat) (a14 a15 : Nat → Int) : djuN → DD (Lf djuN djuR)
 | .n0 p0 p1 p2 p3 p4 p5 p6 p7 p8 =>
 let z0 := Ar.run .add .i64 p0 1
 let z1 := decide (0 + p6 ≤ a5)
 let z2 := fun i => [CV.int IntKind.i64 (IE.x (a6 (0 + i))), CV.int IntKind.i64 (IE.x (a7 (0 + i)))]
 let z3 := ShapeOk [some IntKind.i64, some IntKind.i64] (tabOf p6 z2) z2
 let z4 := decide (0 + p7 ≤ a8)
 let z5 := fun i => [CV.int IntKind.i64 (IE.x (a9 (0 + i))), CV.int IntKind.i64 (IE.x (a10 (0 + i))), CV.int IntKind.i64 (IE.x (a11 (0 + i))), CV.int IntKind.i64 (IE.x (a12 (0 + i)))]
 let z6 := ShapeOk [some IntKind.i64, some IntKind.i64, some IntKind.i64, some IntKind.i64] (tabOf p7 z5) z5
 let z7 := fun i => a6 (0 + i)
 let z8 := fun i => a7 (0 + i)
 let z9 := fun i => a9 (0 + i)
 let z10 := fun i => a10 (0 + i)
 let z11 := fun i => a11 (0 + i)
 let z12 := fun i => a12 (0 + i)
 let z13 := a15 (0 + Int.toNat p0)
 let z14 := a14 (0 + Int.toNat p0)
 let z15 := a14 (0 + Int.toNat z0)
 let z16 := drcA p1 p2 p3 p4 p5 p6 z7 z8 p7 z9 z10 z11 z12 p8 z13 z13 z14 z15
 let z17 := Prod.snd (AF.val z16)
 let z18 := drcA p1 p2 p3 p4 p5 p6 z7 z8 p7 z9 z10 z11 z12 p8 z13 z13 z14 p8
 let z19 := Prod.snd (AF.val z18)
 .ask (Cm.run .lss p0 (↑a13 : Int))
   (.must (decide (0 ≤ p0))
   (.must (decide (p0 < (↑a13 : Int)))
   (.must (decide (0 + Int.toNat p0 < a13))
   (.ask (Cm.run .lss z0 (↑a13 : Int))
   (.must (decide (0 ≤ Ar.run .add .i64 p0 1))
   (.must (decide (Ar.run .add .i64 p0 1 < (↑a13 : Int)))
   (.must (decide (0 + Int.toNat z0 < a13))
   (.must z1
   (.must z3
   (.must z4
   (.must z6
   (.must (AF.fin z16)
   (.ask (Cm.run .lss (Prod.snd z17) z15)
   (.leaf (.done (Prod.snd z17, 0) []))
   (.leaf (.next (.n0 z0 p1 p2 p3 p4 p5 p6 p7 p8) [3])))))))))))
   (.must z1
   (.must z3
   (.must z4
   (.must z6
   (.must (AF.fin z18)
   (.ask (Cm.run .lss (Prod.snd z19) p8)
   (.leaf (.done (Prod.snd z19, 0) []))
   (.leaf (.next (.n0 z0 p1 p2 p3 p4 p5 p6 p7 p8) [3]))))))))))))
   (.leaf (.done (p8, 0) []))

noncomputable def djuA (a0 : Bool) (a1 a2 a3 a4 : Int) (a5 : Nat) (a6 a7 : Nat → Int) (a8 : Nat) (a9 a10 a11 a12 : Nat → Int) (a13 : Nat) (a14 a15 : Nat → Int) : AF djuN djuR where
  code := djuCode
  base := 3
  nt := 83
  m := 400
  un := []
  W := []
  h0 := [(0, ⟨.arg a5 2 (fun i => [.int .i64 (.x (a6 i)), .int .i64 (.x (a7 i))]) (fun _ => ⟨rfl, rfl⟩), 2, true, none⟩), (1, ⟨.arg a8 4 (fun i => [.int .i64 (.x (a9 i)), .int .i64 (.x (a10 i)), .int .i64 (.x (a11 i)), .int .i64 (.x (a12 i))]) (fun _ => ⟨rfl, rfl⟩), 4, true, none⟩), (2, ⟨.arg a13 2 (fun i => [.int .i64 (.x (a14 i)), .int .i64 (.x (a15 i))]) (fun _ => ⟨rfl, rfl⟩), 2, true, none⟩)]
  args := [.agg [.bool (.x a0), .int .i64 (.x a1), .int .i64 (.x a2), .int .i64 (.x a3), .int .i64 (.x a4), .sla 0 2 0 a5], .sla 1 4 0 a8, .sla 2 2 0 a13]
  res := (Try.f34).results.toList
  path := fun a => match a with
   | .n0 p0 p1 p2 p3 p4 p5 p6 p7 p8 => [1, 1, 1, 1, 1, 1, 0, 1, 0]
  pd := fun a => match a with
   | .n0 p0 p1 p2 p3 p4 p5 p6 p7 p8 => ⟨[(2, .sla 2 2 0 a13), (8, .ptr (some (3, 0))), (42, .sla 2 2 0 a13), (43, .int .i64 (.x (↑a13))), (44, .int .i64 (.x p0))], [(3, ⟨.lit [.bool (.x p1), .int .i64 (.x p2), .int .i64 (.x p3), .int .i64 (.x p4), .int .i64 (.x p5), .sla 0 2 0 p6, .sla 1 4 0 p7, .int .i64 (.x p8)], 0, true, none⟩)], 4, []⟩
  D0 := djuD0 a0 a1 a2 a3 a4 a5 a6 a7 a8 a9 a10 a11 a12 a13 a14 a15
  D := djuD a0 a1 a2 a3 a4 a5 a6 a7 a8 a9 a10 a11 a12 a13 a14 a15
  rc := (fun v => .tup [.int .i64 (.x v.1), .int .i64 (.x v.2)])
  rh := (fun v => [])
  rn := (fun v => 3)
  rx := (fun v => [])
  rgo := (fun _ => none)
theorem djustart (a0 : Bool) (a1 a2 a3 a4 : Int) (a5 : Nat) (a6 a7 : Nat → Int) (a8 : Nat) (a9 a10 a11 a12 : Nat → Int) (a13 : Nat) (a14 a15 : Nat → Int) : AF.edgeOk (djuA a0 a1 a2 a3 a4 a5 a6 a7 a8 a9 a10 a11 a12 a13 a14 a15) (ctxOf Try.prog memo0) (djuD0 a0 a1 a2 a3 a4 a5 a6 a7 a8 a9 a10 a11 a12 a13 a14 a15) (AF.run0 (djuA a0 a1 a2 a3 a4 a5 a6 a7 a8 a9 a10 a11 a12 a13 a14 a15) (ctxOf Try.prog (memoS 75 dvpP dvpF dvpW dvpH 3 (memoS 67 drcP drcF drcW drcH 2 (memoP 63 dshP dshF dshW dshH 2 memo0))))) := by unfold AF.edgeOk; kernel_rfl
theorem djunode0 (a0 : Bool) (a1 a2 a3 a4 : Int) (a5 : Nat) (a6 a7 : Nat → Int) (a8 : Nat) (a9 a10 a11 a12 : Nat → Int) (a13 : Nat) (a14 a15 : Nat → Int) (p0 : Int) (p1 : Bool) (p2 p3 p4 p5 : Int) (p6 p7 : Nat) (p8 : Int) : AF.edgeOk (djuA a0 a1 a2 a3 a4 a5 a6 a7 a8 a9 a10 a11 a12 a13 a14 a15) (ctxOf Try.prog memo0) (djuD a0 a1 a2 a3 a4 a5 a6 a7 a8 a9 a10 a11 a12 a13 a14 a15 (.n0 p0 p1 p2 p3 p4 p5 p6 p7 p8)) (AF.runN (djuA a0 a1 a2 a3 a4 a5 a6 a7 a8 a9 a10 a11 a12 a13 a14 a15) (ctxOf Try.prog (memoS 75 dvpP dvpF dvpW dvpH 3 (memoS 67 drcP drcF drcW drcH 2 (memoP 63 dshP dshF dshW dshH 2 memo0)))) (.n0 p0 p1 p2 p3 p4 p5 p6 p7 p8)) := by unfold AF.edgeOk; kernel_rfl
theorem djuok (a0 : Bool) (a1 a2 a3 a4 : Int) (a5 : Nat) (a6 a7 : Nat → Int) (a8 : Nat) (a9 a10 a11 a12 : Nat → Int) (a13 : Nat) (a14 a15 : Nat → Int) : (djuA a0 a1 a2 a3 a4 a5 a6 a7 a8 a9 a10 a11 a12 a13 a14 a15).Ok Try.prog (ctxOf Try.prog (memoS 75 dvpP dvpF dvpW dvpH 3 (memoS 67 drcP drcF drcW drcH 2 (memoP 63 dshP dshF dshW dshH 2 memo0)))) where
  regs := by kernel_rfl
  h0 := by kernel_rfl
  start := djustart a0 a1 a2 a3 a4 a5 a6 a7 a8 a9 a10 a11 a12 a13 a14 a15
  node := fun a _ => match a with
   | .n0 p0 p1 p2 p3 p4 p5 p6 p7 p8 => djunode0 a0 a1 a2 a3 a4 a5 a6 a7 a8 a9 a10 a11 a12 a13 a14 a15 p0 p1 p2 p3 p4 p5 p6 p7 p8
  pd := fun a => match a with
   | .n0 p0 p1 p2 p3 p4 p5 p6 p7 p8 => ⟨(fa_cons rfl (fa_cons rfl (fa_cons rfl (fa_cons rfl (fa_cons rfl fa_nil))))), (fa_cons ⟨.inl (Nat.le_of_ble_eq_true rfl), rfl, rfl⟩ fa_nil), fa_nil, rfl⟩
  le := fun a => match a with
   | .n0 p0 p1 p2 p3 p4 p5 p6 p7 p8 => Nat.le_of_ble_eq_true rfl
  rd := fun v => ⟨⟨fa_nil, fa_nil, fa_nil, rfl⟩, rfl⟩
  wb := rfl
theorem djuhR {ρ : Env} (a0 : Bool) (a1 a2 a3 a4 : Int) (a5 : Nat) (a6 a7 : Nat → Int) (a8 : Nat) (a9 a10 a11 a12 : Nat → Int) (a13 : Nat) (a14 a15 : Nat → Int) (hM : MemoOk Try.prog (ctxOf Try.prog (memoS 75 dvpP dvpF dvpW dvpH 3 (memoS 67 drcP drcF drcW drcH 2 (memoP 63 dshP dshF dshW dshH 2 memo0)))) ρ) : ∀ X a q n D, FxOk ρ X → X.base = (djuA a0 a1 a2 a3 a4 a5 a6 a7 a8 a9 a10 a11 a12 a13 a14 a15).base → X.nt = (djuA a0 a1 a2 a3 a4 a5 a6 a7 a8 a9 a10 a11 a12 a13 a14 a15).nt → X.W = (djuA a0 a1 a2 a3 a4 a5 a6 a7 a8 a9 a10 a11 a12 a13 a14 a15).W → (djuA a0 a1 a2 a3 a4 a5 a6 a7 a8 a9 a10 a11 a12 a13 a14 a15).rgo a = some q → q n = some D → (djuA a0 a1 a2 a3 a4 a5 a6 a7 a8 a9 a10 a11 a12 a13 a14 a15).RangeOk Try.prog ρ X a D := AF.noRange rfl
theorem djuctr {ρ : Env} (a0 : Bool) (a1 a2 a3 a4 : Int) (a5 : Nat) (a6 a7 : Nat → Int) (a8 : Nat) (a9 a10 a11 a12 : Nat → Int) (a13 : Nat) (a14 a15 : Nat → Int) {n : Nat} {v : djuR} (hM : MemoOk Try.prog (ctxOf Try.prog (memoS 75 dvpP dvpF dvpW dvpH 3 (memoS 67 drcP drcF drcW drcH 2 (memoP 63 dshP dshF dshW dshH 2 memo0)))) ρ) (hv : (djuA a0 a1 a2 a3 a4 a5 a6 a7 a8 a9 a10 a11 a12 a13 a14 a15).run n = some v) :
    Ctr Try.prog ρ 34 (djuA a0 a1 a2 a3 a4 a5 a6 a7 a8 a9 a10 a11 a12 a13 a14 a15).args (djuA a0 a1 a2 a3 a4 a5 a6 a7 a8 a9 a10 a11 a12 a13 a14 a15).H0 (djuA a0 a1 a2 a3 a4 a5 a6 a7 a8 a9 a10 a11 a12 a13 a14 a15).base (djuA a0 a1 a2 a3 a4 a5 a6 a7 a8 a9 a10 a11 a12 a13 a14 a15).W ((djuA a0 a1 a2 a3 a4 a5 a6 a7 a8 a9 a10 a11 a12 a13 a14 a15).rc v) (putH (djuA a0 a1 a2 a3 a4 a5 a6 a7 a8 a9 a10 a11 a12 a13 a14 a15).H0 ((djuA a0 a1 a2 a3 a4 a5 a6 a7 a8 a9 a10 a11 a12 a13 a14 a15).rh v ++ (djuA a0 a1 a2 a3 a4 a5 a6 a7 a8 a9 a10 a11 a12 a13 a14 a15).rx v)) ((djuA a0 a1 a2 a3 a4 a5 a6 a7 a8 a9 a10 a11 a12 a13 a14 a15).rn v) :=
  AF.ctr try_ok hM (djuok a0 a1 a2 a3 a4 a5 a6 a7 a8 a9 a10 a11 a12 a13 a14 a15) (fn := Try.f34) Try.func34 rfl rfl (Nat.le_of_ble_eq_true rfl) rfl (djuhR a0 a1 a2 a3 a4 a5 a6 a7 a8 a9 a10 a11 a12 a13 a14 a15 hM) hv
theorem djumem {ρ : Env} : MemoOk Try.prog (ctxOf Try.prog (memoS 75 dvpP dvpF dvpW dvpH 3 (memoS 67 drcP drcF drcW drcH 2 (memoP 63 dshP dshF dshW dshH 2 memo0)))) ρ := (memoS_ok (dvpknown dvpmem) (memoS_ok (drcknown drcmem) (memoP_ok (dshknown dshmem) memo0_ok)))
abbrev djuP : List AQ := [.agg [.bool, .int .i64, .int .i64, .int .i64, .int .i64, .rows [some .i64, some .i64]], .rows [some .i64, some .i64, some .i64, some .i64], .rows [some .i64, some .i64]]
noncomputable def djuF (v : AW) : AF djuN djuR := djuA (v.b.getD 0 false) (v.i.getD 0 0) (v.i.getD 1 0) (v.i.getD 2 0) (v.i.getD 3 0) (v.t.getD 0 .none).n ((v.t.getD 0 .none).c 0) ((v.t.getD 0 .none).c 1) (v.t.getD 1 .none).n ((v.t.getD 1 .none).c 0) ((v.t.getD 1 .none).c 1) ((v.t.getD 1 .none).c 2) ((v.t.getD 1 .none).c 3) (v.t.getD 2 .none).n ((v.t.getD 2 .none).c 0) ((v.t.getD 2 .none).c 1)
noncomputable def djuW : djuR → CV := fun v => .tup [.int .i64 (.x v.1), .int .i64 (.x v.2)]
noncomputable def djuH : djuR → List (Nat × Blk) := fun v => []
instance : Inhabited djuR := ⟨(0, 0)⟩
theorem djuknown {ρ : Env} (hM : MemoOk Try.prog (ctxOf Try.prog (memoS 75 dvpP dvpF dvpW dvpH 3 (memoS 67 drcP drcF drcW drcH 2 (memoP 63 dshP dshF dshW dshH 2 memo0)))) ρ) : KnownS Try.prog ρ 34 djuP djuF djuW djuH 3 where
  fn := ⟨Try.f34, Try.func34, rfl⟩
  le := Nat.le_of_ble_eq_true rfl
  full := fun r => rfl
  rg := fun r => rfl
  hg := fun r => fa_nil
  ctr := fun v n r h => djuctr (v.b.getD 0 false) (v.i.getD 0 0) (v.i.getD 1 0) (v.i.getD 2 0) (v.i.getD 3 0) (v.t.getD 0 .none).n ((v.t.getD 0 .none).c 0) ((v.t.getD 0 .none).c 1) (v.t.getD 1 .none).n ((v.t.getD 1 .none).c 0) ((v.t.getD 1 .none).c 1) ((v.t.getD 1 .none).c 2) ((v.t.getD 1 .none).c 3) (v.t.getD 2 .none).n ((v.t.getD 2 .none).c 0) ((v.t.getD 2 .none).c 1) hM h
end Go.Proofs.Ythagjhadjpangaa.Cx

/- acme/acmeref07.Judge as an automaton. Made by tools/cxauto.py. -/
namespace Go.Proofs.Ythagjhadjpangaa.Cx
set_option linter.unusedVariables false
set_option linter.unusedSimpArgs false
set_option maxRecDepth 100000
open Go Go.Proofs Go.RowKit
abbrev rdjR := Int
instance : Inhabited rdjR := ⟨0⟩
end Go.Proofs.Ythagjhadjpangaa.Cx

/- Package die: Judge, the program's and the reference's. -/
namespace Go.Proofs.Ythagjhadjpangaa.Cx
set_option linter.unusedVariables false
set_option linter.unusedSimpArgs false
set_option maxRecDepth 100000
set_option maxHeartbeats 4000000
open Go Go.RowKit
/-- The piece p is sure with the setting before it. -/
def SureW (tl th : Int → Nat → Int) (n : Nat) (F G : Nat → Int) (p : Int) : Prop :=
  ∃ i : Nat, i < n ∧ F i ≤ p ∧ (i + 1 < n → p < F (i + 1)) ∧ tl (F i) (p - F i).toNat ≤ G i ∧ G i ≤ th (F i) (p - F i).toNat
theorem same_setting {n : Nat} {F : Nat → Int} {T p : Int} (ho : OrdS n F T) {i j : Nat} (hi : i < n) (hj : j < n) (h1 : F i ≤ p) (h2 : i + 1 < n → p < F (i + 1)) (h3 : F j ≤ p) (h4 : j + 1 < n → p < F (j + 1)) : i = j := by
  rcases Nat.lt_trichotomy i j with q | q | q
  · have a := h2 (by omega)
    by_cases he : i + 1 = j
    · rw [he] at a; omega
    · have := ho.asc (i := i + 1) j (by omega) hj
      omega
  · exact q
  · have a := h4 (by omega)
    by_cases he : j + 1 = i
    · rw [he] at a; omega
    · have := ho.asc (i := j + 1) i (by omega) hi
      omega
theorem just_pairs {t : Int} {tl th : Nat → Int} {m : Nat} : LoM t tl m ≤ HiM t th m ↔ ∀ j, j < m → tl j ≤ t ∧ t ≤ th j := by
  have a := LoM_mono (t := t) (tl := tl) (i := 0) m (by omega)
  have b := HiM_mono (t := t) (th := th) (i := 0) m (by omega)
  have c := LoM_le (t := t) (x := t) (tl := tl) m
  have d := HiM_ge (t := t) (x := t) (th := th) m
  simp only [LoM] at a
  simp only [HiM] at b
  constructor
  · intro h j hj
    exact ⟨(c.1 (by omega)).2 j hj, (d.1 (by omega)).2 j hj⟩
  · intro h
    have c' := c.2 ⟨Int.le_refl _, fun j hj => (h j hj).1⟩
    have d' := d.2 ⟨Int.le_refl _, fun j hj => (h j hj).2⟩
    omega
/-- A setting that goes over J pieces. -/
theorem just_reach {t : Int} {tl th : Nat → Int} {J : Nat} {d : Int} (j1 : (J : Int) ≤ d) (j2 : (J : Int) < d → LoM t tl (J + 1) > HiM t th (J + 1)) (j3 : 0 < J → LoM t tl J ≤ HiM t th J) : (∀ j, j < J → tl j ≤ t ∧ t ≤ th j) ∧ ((J : Int) < d → ¬ (tl J ≤ t ∧ t ≤ th J)) := by
  have a : ∀ j, j < J → tl j ≤ t ∧ t ≤ th j := fun j hj => just_pairs.1 (j3 (by omega)) j hj
  refine ⟨a, fun hd hx => ?_⟩
  have b := j2 hd
  have c := (just_pairs (t := t) (tl := tl) (th := th) (m := J + 1)).2 fun j hj => by
    by_cases he : j < J
    · exact a j he
    · obtain rfl : j = J := by omega
      exact hx
  omega
section
variable {a0 : Bool} {a1 a2 a3 a4 : Int} {a5 : Nat} {a6 a7 : Nat → Int} {a8 : Nat} {a9 a10 a11 a12 : Nat → Int} {a13 : Nat} {a14 a15 : Nat → Int}
/-- What Judge yields. -/
def JudE (a0 : Bool) (a1 a2 a3 a4 : Int) (a5 : Nat) (a6 a7 : Nat → Int) (a8 : Nat) (a9 a10 a11 a12 : Nat → Int) (a13 : Nat) (a14 a15 : Nat → Int) (v : Int × Int) : Prop :=
  ∃ e, CkS a5 a8 (ToolOk a5 a6 a7 a1 a2 a3 a4) a9 a10 a11 a12 e ∧ (e ≠ 0 ∧ v = (0, e) ∨ e = 0 ∧ (a13 > 1000 ∧ v = (0, 5) ∨ a13 ≤ 1000 ∧ (¬ SetS a13 a14 a15 (PS a9 a8) ∧ v = (0, 2) ∨
    SetS a13 a14 a15 (PS a9 a8) ∧ ∃ r, FstN (SureW (tlP a0 a1 a3 a6 a7 a10 a9 a11 a8) (thP a0 a2 a4 a6 a7 a10 a9 a12 a8) a13 a14 a15) (PS a9 a8) r ∧ v = (r, 0))))
theorem dju_val (hn : a5 ≤ 10000) (hm : a8 ≤ 10000) (hk : a13 ≤ 10000) : AF.fin (djuA a0 a1 a2 a3 a4 a5 a6 a7 a8 a9 a10 a11 a12 a13 a14 a15) = true ∧ JudE a0 a1 a2 a3 a4 a5 a6 a7 a8 a9 a10 a11 a12 a13 a14 a15 (AF.val (djuA a0 a1 a2 a3 a4 a5 a6 a7 a8 a9 a10 a11 a12 a13 a14 a15)) := by
  obtain ⟨hf, e, hC, hv⟩ := dsh_val (a0 := a0) (a1 := a1) (a2 := a2) (a3 := a3) (a4 := a4) (a5 := a5) (a6 := a6) (a7 := a7) (a8 := a8) (a9 := a9) (a10 := a10) (a11 := a11) (a12 := a12) hn hm
  refine AF.val_sat (E := JudE a0 a1 a2 a3 a4 a5 a6 a7 a8 a9 a10 a11 a12 a13 a14 a15) (Inv := fun b => match b with | .n0 p p0 p1 p2 p3 p4 p5 p6 p7 => (p0 = a0 ∧ p1 = a1 ∧ p2 = a2 ∧ p3 = a3 ∧ p4 = a4 ∧ p5 = a5 ∧ p6 = a8 ∧ p7 = PS a9 a8) ∧ e = 0 ∧ a13 ≤ 1000 ∧ SetS a13 a14 a15 (PS a9 a8) ∧ 0 ≤ p ∧ p ≤ a13 ∧ ∀ q, 0 ≤ q → q < (if p < a13 then a14 p.toNat else PS a9 a8) → SureW (tlP a0 a1 a3 a6 a7 a10 a9 a11 a8) (thP a0 a2 a4 a6 a7 a10 a9 a12 a8) a13 a14 a15 q)
    (fun b => match b with | .n0 p p0 p1 p2 p3 p4 p5 p6 p7 => (a13 - p).toNat) (fun _ => rfl) (fun a hI => ?_) ?_
  · cases a with
    | n0 p p0 p1 p2 p3 p4 p5 p6 p7 =>
      obtain ⟨⟨rfl, rfl, rfl, rfl, rfl, rfl, rfl, rfl⟩, rfl, hk', ho, g0, g1, g2⟩ := hI
      have job := hC.job
      have r := PS_rng job.pc p6 (Nat.le_refl _)
      have few := job.few
      have ans : ∀ r, FstN (SureW (tlP p0 p1 p3 a6 a7 a10 a9 a11 p6) (thP p0 p2 p4 a6 a7 a10 a9 a12 p6) a13 a14 a15) (PS a9 p6) r → JudE p0 p1 p2 p3 p4 p5 a6 a7 p6 a9 a10 a11 a12 a13 a14 a15 (r, 0) := fun r hr => ⟨0, hC, .inr ⟨rfl, .inr ⟨hk', .inr ⟨ho, r, hr, rfl⟩⟩⟩⟩
      show DD.sat _ _ (djuD p0 p1 p2 p3 p4 p5 a6 a7 p6 a9 a10 a11 a12 a13 a14 a15 (.n0 p p0 p1 p2 p3 p4 p5 p6 (PS a9 p6)))
      unfold djuD
      by_cases hq : p < a13
      · have e1 : Ar.run .add .i64 p 1 = p + 1 := arAdd (by omega)
        have b1 := ho.1.1 p.toNat (by omega)
        rw [if_pos hq] at g2
        have e2 : (p + 1).toNat = p.toNat + 1 := by omega
        have go : ∀ nx, a14 p.toNat ≤ nx → nx ≤ PS a9 p6 → (nx = if p + 1 < a13 then a14 (p + 1).toNat else PS a9 p6) → AF.fin (drcA p0 p1 p2 p3 p4 p5 a6 a7 p6 a9 a10 a11 a12 (PS a9 p6) (a15 p.toNat) (a15 p.toNat) (a14 p.toNat) nx) = true ∧ ∃ x y z, AF.val (drcA p0 p1 p2 p3 p4 p5 (fun i => a6 i) (fun i => a7 i) p6 (fun i => a9 i) (fun i => a10 i) (fun i => a11 i) (fun i => a12 i) (PS a9 p6) (a15 p.toNat) (a15 p.toNat) (a14 p.toNat) nx) = (x, y, z) ∧
            (z < nx → FstN (SureW (tlP p0 p1 p3 a6 a7 a10 a9 a11 p6) (thP p0 p2 p4 a6 a7 a10 a9 a12 p6) a13 a14 a15) (PS a9 p6) z) ∧ (nx ≤ z → ∀ q, 0 ≤ q → q < nx → SureW (tlP p0 p1 p3 a6 a7 a10 a9 a11 p6) (thP p0 p2 p4 a6 a7 a10 a9 a12 p6) a13 a14 a15 q) := fun nx n1 n2 hnx => by
          obtain ⟨rf, x, y, z, rv, J, j1, j2, j3, rfl, rfl, rfl⟩ := drc_gen (a0 := p0) (a13 := PS a9 p6) (a14 := a15 p.toNat) (a15 := a15 p.toNat) (a16 := a14 p.toNat) (a17 := nx) job b1.1 n1 n2
          obtain ⟨s1, s2⟩ := just_reach j1 j2 j3
          have lim : ∀ q, q < nx → p.toNat + 1 < a13 → q < a14 (p.toNat + 1) := fun q hq1 hx => by
            rw [if_pos (by omega), e2] at hnx
            omega
          have sure : ∀ q, 0 ≤ q → q < a14 p.toNat + J → q < nx → SureW (tlP p0 p1 p3 a6 a7 a10 a9 a11 p6) (thP p0 p2 p4 a6 a7 a10 a9 a12 p6) a13 a14 a15 q := fun q q0 q1 q2 => by
            by_cases hl : q < a14 p.toNat
            · exact g2 q q0 hl
            · have s := s1 (q - a14 p.toNat).toNat (by omega)
              exact ⟨p.toNat, by omega, by omega, lim q q2, s.1, s.2⟩
          refine ⟨rf, _, _, _, rv, fun hz => ⟨by omega, by omega, fun q q0 q1 => sure q q0 q1 (by omega), fun hz2 => ?_⟩, fun hz q q0 q1 => sure q q0 (by omega) q1⟩
          rintro ⟨i, i1, i2, i3, i4, i5⟩
          obtain rfl := same_setting ho.1 (i := p.toNat) (j := i) (p := a14 p.toNat + J) (by omega) i1 (by omega) (lim _ hz) i2 i3
          have e3 : (a14 p.toNat + J - a14 p.toNat).toNat = J := by omega
          rw [e3] at i4 i5
          exact s2 (by omega) ⟨i4, i5⟩
        by_cases hq2 : p + 1 < a13
        · have b2 := ho.1.1 (p.toNat + 1) (by omega)
          have b3 := ho.1.2 p.toNat (by omega)
          obtain ⟨rf, x, y, z, rv, z1, z2⟩ := go (a14 (p.toNat + 1)) (by omega) (by omega) (by rw [if_pos hq2, e2])
          simp only [DD.sat, Nat.zero_add, cmLss, cmLssF, cmLeq, cmLeqF, cmGtr, cmGtrF, cmGeq, cmGeqF, cmEql, cmEqlF, cmNeq, cmNeqF, decide_eq_true_eq, Bool.not_eq_true', Bool.not_eq_false', e1, e2, rv]
          refine ⟨fun _ => ⟨g0, hq, by omega, fun _ => ⟨by omega, hq2, by omega, Nat.le_refl _, shape_ok fun i _ => rfl, Nat.le_refl _, shape_ok fun i _ => rfl, rf, fun hz => ans z (z1 hz), fun hz => ⟨⟨(by repeat' (first | trivial | exact rfl | apply And.intro)), trivial, hk', ho, by omega, by omega, ?_⟩, by omega⟩⟩, fun hx => by omega⟩, fun hx => by omega⟩
          rw [if_pos hq2]
          exact z2 hz
        · obtain ⟨rf, x, y, z, rv, z1, z2⟩ := go (PS a9 p6) (by omega) (Int.le_refl _) (by rw [if_neg hq2])
          simp only [DD.sat, Nat.zero_add, cmLss, cmLssF, cmLeq, cmLeqF, cmGtr, cmGtrF, cmGeq, cmGeqF, cmEql, cmEqlF, cmNeq, cmNeqF, decide_eq_true_eq, Bool.not_eq_true', Bool.not_eq_false', e1, e2, rv]
          refine ⟨fun _ => ⟨g0, hq, by omega, fun hx => by omega, fun _ => ⟨Nat.le_refl _, shape_ok fun i _ => rfl, Nat.le_refl _, shape_ok fun i _ => rfl, rf, fun hz => ans z (z1 hz), fun hz => ⟨⟨(by repeat' (first | trivial | exact rfl | apply And.intro)), trivial, hk', ho, by omega, by omega, ?_⟩, by omega⟩⟩⟩, fun hx => by omega⟩
          rw [if_neg hq2]
          exact z2 hz
      · rw [if_neg hq] at g2
        simp only [DD.sat, Nat.zero_add, cmLss, cmLssF, cmLeq, cmLeqF, cmGtr, cmGtrF, cmGeq, cmGeqF, cmEql, cmEqlF, cmNeq, cmNeqF, decide_eq_true_eq, Bool.not_eq_true', Bool.not_eq_false']
        exact ⟨fun hx => by omega, fun _ => ans (PS a9 p6) ⟨by omega, Int.le_refl _, g2, fun hx => by omega⟩⟩
  · show DD.sat _ _ (djuD0 a0 a1 a2 a3 a4 a5 a6 a7 a8 a9 a10 a11 a12 a13 a14 a15)
    unfold djuD0
    rcases hv with ⟨he, hv⟩ | ⟨rfl, hv⟩
    · have hv' : AF.val (dshA a0 a1 a2 a3 a4 a5 (fun i => a6 i) (fun i => a7 i) a8 (fun i => a9 i) (fun i => a10 i) (fun i => a11 i) (fun i => a12 i)) = .r0 e := hv
      simp only [DD.sat, Nat.zero_add, cmLss, cmLssF, cmLeq, cmLeqF, cmGtr, cmGtrF, cmGeq, cmGeqF, cmEql, cmEqlF, cmNeq, cmNeqF, decide_eq_true_eq, Bool.not_eq_true', Bool.not_eq_false', hv', dshw8]
      refine ⟨Nat.le_refl _, shape_ok fun i _ => rfl, Nat.le_refl _, shape_ok fun i _ => rfl, hf, fun _ => ⟨e, hC, .inl ⟨he, rfl⟩⟩, fun hx => absurd hx he⟩
    · have hv' : AF.val (dshA a0 a1 a2 a3 a4 a5 (fun i => a6 i) (fun i => a7 i) a8 (fun i => a9 i) (fun i => a10 i) (fun i => a11 i) (fun i => a12 i)) = .r1 a0 a1 a2 a3 a4 a5 a8 (PS a9 a8) := hv
      have job := hC.job
      have r := PS_rng job.pc a8 (Nat.le_refl _)
      have few := job.few
      simp only [DD.sat, Nat.zero_add, cmLss, cmLssF, cmLeq, cmLeqF, cmGtr, cmGtrF, cmGeq, cmGeqF, cmEql, cmEqlF, cmNeq, cmNeqF, decide_eq_true_eq, Bool.not_eq_true', Bool.not_eq_false', hv', dshw0, dshw1, dshw2, dshw3, dshw4, dshw5, dshw6, dshw7, dshw8]
      refine ⟨Nat.le_refl _, shape_ok fun i _ => rfl, Nat.le_refl _, shape_ok fun i _ => rfl, hf, fun hx => absurd rfl hx, fun _ => ⟨fun h => ⟨0, hC, .inr ⟨rfl, .inl ⟨by omega, rfl⟩⟩⟩, fun h1 => ?_⟩⟩
      obtain ⟨of, ov⟩ := dvp_val (a0 := a0) (a1 := a1) (a2 := a2) (a3 := a3) (a4 := a4) (a5 := a5) (a6 := a6) (a7 := a7) (a8 := a8) (a9 := a9) (a10 := a10) (a11 := a11) (a12 := a12) (a13 := PS a9 a8) (a14 := a13) (a15 := a14) (a16 := a15) (by omega) (by omega)
      have ovE : AF.val (dvpA a0 a1 a2 a3 a4 a5 (fun i => a6 i) (fun i => a7 i) a8 (fun i => a9 i) (fun i => a10 i) (fun i => a11 i) (fun i => a12 i) (PS a9 a8) a13 (fun i => a14 i) (fun i => a15 i)) = true ↔ SetS a13 a14 a15 (PS a9 a8) := ov
      have none : AF.val (dvpA a0 a1 a2 a3 a4 a5 (fun i => a6 i) (fun i => a7 i) a8 (fun i => a9 i) (fun i => a10 i) (fun i => a11 i) (fun i => a12 i) (PS a9 a8) a13 (fun i => a14 i) (fun i => a15 i)) = true → (a13 = 0 ∨ 0 < a13 ∧ a14 0 > 0) → JudE a0 a1 a2 a3 a4 a5 a6 a7 a8 a9 a10 a11 a12 a13 a14 a15 (0, 0) := fun hb hz => ⟨0, hC, .inr ⟨rfl, .inr ⟨by omega, .inr ⟨ovE.1 hb, 0, ⟨Int.le_refl _, by omega, fun k k0 k1 => by omega, fun _ => ?_⟩, rfl⟩⟩⟩⟩
      · refine ⟨Nat.le_refl _, shape_ok fun i _ => rfl, Nat.le_refl _, shape_ok fun i _ => rfl, Nat.le_refl _, shape_ok fun i _ => rfl, of, fun hb => ⟨0, hC, .inr ⟨rfl, .inr ⟨by omega, .inl ⟨fun k => ?_, rfl⟩⟩⟩⟩, fun hb => ⟨fun hz => none hb (.inl (by omega)), fun hz => ⟨trivial, by omega, by omega, fun h0 => none hb (.inr ⟨by omega, h0⟩), fun h0 => ⟨(by repeat' (first | trivial | exact rfl | apply And.intro)), trivial, by omega, ovE.1 hb, Int.le_refl _, by omega, fun q q0 q1 => ?_⟩⟩⟩⟩
        · rw [ovE.2 k] at hb
          cases hb
        · rw [if_pos (by omega)] at q1
          have e0 : (0 : Int).toNat = 0 := rfl
          rw [e0] at q1 h0
          omega
      · rintro ⟨i, i1, i2, i3, i4, i5⟩
        rcases hz with hz | ⟨hz, h0⟩
        · omega
        · by_cases he : i = 0
          · subst he; omega
          · have := (ovE.1 hb).1.asc (i := 0) i (by omega) i1
            omega
end
end Go.Proofs.Ythagjhadjpangaa.Cx

/- Package die: what chains of settings that go as far as they can make sure. -/
namespace Go.Proofs.Ythagjhadjpangaa.Cx
set_option linter.unusedVariables false
set_option linter.unusedSimpArgs false
set_option maxRecDepth 100000
set_option maxHeartbeats 4000000
open Go Go.RowKit
theorem Chn.at' {T : Int} {lo hi : Int → Nat → Int} {k : Nat} {f : Int} {F G : Nat → Int} (h : Chn T lo hi k f F G) : ∃ E : Nat → Int, E 0 = 0 ∧ E k = f ∧ (∀ i, i < k → F i = E i ∧ E i < E (i + 1) ∧ E (i + 1) ≤ T ∧ CanP lo hi (E i) (E (i + 1)) ∧ G i = lo (E i) (E (i + 1) - E i).toNat) ∧ ∀ i, i ≤ k → 0 ≤ E i := by
  obtain ⟨E, e0, ek, h⟩ := h
  have st : ∀ i, i < k → F i = E i ∧ E i < E (i + 1) ∧ E (i + 1) ≤ T ∧ CanP lo hi (E i) (E (i + 1)) ∧ G i = lo (E i) (E (i + 1) - E i).toNat := fun i hi => by
    obtain ⟨a, J, j0, r, e, g⟩ := h i hi
    have en : (E (i + 1) - E i).toNat = J := by omega
    have r1 := r.1
    refine ⟨a, by omega, by omega, ?_, ?_⟩
    · unfold CanP; rw [en]; exact r.2.2 j0
    · rw [en]; exact g
  refine ⟨E, e0, ek, st, fun i => ?_⟩
  induction i with
  | zero => intro _; omega
  | succ i ih =>
    intro hi
    have a := ih (by omega)
    have b := (st i (by omega)).2.1
    omega
theorem seg {E : Nat → Int} {p : Int} : ∀ k, E 0 ≤ p → p < E k → ∃ i, i < k ∧ E i ≤ p ∧ p < E (i + 1)
  | 0, h0, h1 => by omega
  | k + 1, h0, h1 => by
    by_cases h : p < E k
    · obtain ⟨i, a, b⟩ := seg k h0 h
      exact ⟨i, by omega, b⟩
    · exact ⟨k, by omega, by omega, h1⟩
section
variable {b : Bool} {s1 s2 c1 c2 : Int} {n : Nat} {w1 w2 : Nat → Int} {m : Nat} {pc st zl zh : Nat → Int} {f : Int} {j k : Nat} {F G : Nat → Int}
theorem can_in (hc : (loJ b s1 c1 w1 w2 m pc st zl) f k ≤ (hiJ b s2 c2 w1 w2 m pc st zh) f k) (hj : j < k) : tlP b s1 c1 w1 w2 st pc zl m f j ≤ (loJ b s1 c1 w1 w2 m pc st zl) f k ∧ (hiJ b s2 c2 w1 w2 m pc st zh) f k ≤ thP b s2 c2 w1 w2 st pc zh m f j := ⟨((LoM_le k).1 (Int.le_refl _)).2 j hj, ((HiM_ge k).1 (Int.le_refl _)).2 j hj⟩
theorem JobOk.first (h : JobOk s1 s2 c1 c2 n w1 w2 m pc st zl zh) (h0 : 0 ≤ f) (h1 : f < PS pc m) : -2000000 ≤ tlP b s1 c1 w1 w2 st pc zl m f 0 ∧ thP b s2 c2 w1 w2 st pc zh m f 0 ≤ 10002000000 := by
  have t := (h.at' (x := f) h0 h1).2.2.1
  obtain ⟨_, _, q1, q2⟩ := h.tool
  unfold VOk at q1 q2
  unfold tlP thP gL gH
  simp only [WSum]
  rw [show f + ((0 : Nat) : Int) = f by omega]
  cases b <;> simp only [cond_true, cond_false] <;> omega
theorem JobOk.lobd (h : JobOk s1 s2 c1 c2 n w1 w2 m pc st zl zh) (h0 : 0 ≤ f) (hk : 0 < k) (h1 : f + k ≤ PS pc m) : (-2000000 ≤ (loJ b s1 c1 w1 w2 m pc st zl) f k ∧ (loJ b s1 c1 w1 w2 m pc st zl) f k ≤ 100000000000) ∧ (-100000000000 ≤ (hiJ b s2 c2 w1 w2 m pc st zh) f k ∧ (hiJ b s2 c2 w1 w2 m pc st zh) f k ≤ 10002000000) := by
  have a := h.first (b := b) h0 (by omega)
  have e1 := ((LoM_le (t := -1152921504606846976) (tl := tlP b s1 c1 w1 w2 st pc zl m f) k).1 (Int.le_refl _)).2 0 hk
  have e2 := ((HiM_ge (t := 1152921504606846976) (th := thP b s2 c2 w1 w2 st pc zh m f) k).1 (Int.le_refl _)).2 0 hk
  have b1 := (LoM_le (t := -1152921504606846976) (x := 100000000000) (tl := tlP b s1 c1 w1 w2 st pc zl m f) k).2 ⟨by omega, fun j hj => (h.tbd (a0 := b) (j := j) h0 (by omega)).1.2⟩
  have b2 := (HiM_ge (t := 1152921504606846976) (x := -100000000000) (th := thP b s2 c2 w1 w2 st pc zh m f) k).2 ⟨by omega, fun j hj => (h.tbd (a0 := b) (j := j) h0 (by omega)).2.1⟩
  unfold loJ hiJ
  omega
theorem LoM_att {t : Int} {tl : Nat → Int} : ∀ n, LoM t tl n = t ∨ ∃ j, j < n ∧ LoM t tl n = tl j
  | 0 => .inl rfl
  | n + 1 => by
    rw [LoM]
    by_cases h : tl n ≤ LoM t tl n
    · rw [show max (LoM t tl n) (tl n) = LoM t tl n by omega]
      rcases LoM_att n with h | ⟨j, hj, h⟩
      · exact .inl h
      · exact .inr ⟨j, by omega, h⟩
    · exact .inr ⟨n, by omega, by omega⟩
theorem HiM_att {t : Int} {th : Nat → Int} : ∀ n, HiM t th n = t ∨ ∃ j, j < n ∧ HiM t th n = th j
  | 0 => .inl rfl
  | n + 1 => by
    rw [HiM]
    by_cases h : HiM t th n ≤ th n
    · rw [show min (HiM t th n) (th n) = HiM t th n by omega]
      rcases HiM_att n with h | ⟨j, hj, h⟩
      · exact .inl h
      · exact .inr ⟨j, by omega, h⟩
    · exact .inr ⟨n, by omega, by omega⟩
theorem chn_set (h : JobOk s1 s2 c1 c2 n w1 w2 m pc st zl zh) (hc : Chn (PS pc m) (loJ b s1 c1 w1 w2 m pc st zl) (hiJ b s2 c2 w1 w2 m pc st zh) k (PS pc m) F G) : SetS k F G (PS pc m) := by
  obtain ⟨E, e0, ek, st, nn⟩ := hc.at'
  refine ⟨⟨fun i hi => ?_, fun i hi => ?_⟩, fun i hi => ?_⟩
  · have a := st i hi
    have b := nn i (by omega)
    omega
  · have a := st i (by omega)
    have b := st (i + 1) hi
    omega
  · obtain ⟨a1, a2, a3, a4, a5⟩ := st i (by omega)
    have b1 := nn i (by omega)
    have d := h.lobd (b := b) (f := E i) (k := (E (i + 1) - E i).toNat) b1 (by omega) (by omega)
    unfold CanP at a4
    rw [a5]
    omega
theorem chn_sure (h : JobOk s1 s2 c1 c2 n w1 w2 m pc st zl zh) (hc : Chn (PS pc m) (loJ b s1 c1 w1 w2 m pc st zl) (hiJ b s2 c2 w1 w2 m pc st zh) k (PS pc m) F G) : ∀ p, 0 ≤ p → p < PS pc m → SureW (tlP b s1 c1 w1 w2 st pc zl m) (thP b s2 c2 w1 w2 st pc zh m) k F G p := by
  obtain ⟨E, e0, ek, st, nn⟩ := hc.at'
  intro p p0 p1
  obtain ⟨i, i1, i2, i3⟩ := seg (E := E) (p := p) k (by omega) (by omega)
  obtain ⟨a1, a2, a3, a4, a5⟩ := st i i1
  have c := can_in (b := b) (s1 := s1) (s2 := s2) (c1 := c1) (c2 := c2) (f := E i) (j := (p - E i).toNat) (k := (E (i + 1) - E i).toNat) a4 (by omega)
  unfold CanP at a4
  refine ⟨i, i1, by omega, fun hx => ?_, ?_, ?_⟩
  · have := (st (i + 1) hx).1
    omega
  · rw [a1, a5]
    exact c.1
  · rw [a1, a5]
    omega
end
end Go.Proofs.Ythagjhadjpangaa.Cx

/- A CALL THAT IS KNOWN BY A RUN OF ITS OWN: the evaluator runs it once, in a small memory that holds its arguments' blocks; wherever the same arguments come up, with blocks that hold the same, it yields the same. So a long run is many short ones, each a theorem of its own. -/
namespace Go.Proofs.Ythagjhadjpangaa.Cx
set_option linter.unusedSimpArgs false
set_option linter.unusedVariables false
open Go Go.RowKit
mutual
/-- The same value, where block b is called β b. -/
def CV.eqv (β : Nat → Nat) (N : Nat) : CV → CV → Bool
  | .bool (.c a), .bool (.c b) => (a && b) || (!a && !b)
  | .int k (.c n), .int k' (.c m) => decide (k = k') && decide (n = m)
  | .ptr none, .ptr none => true
  | .ptr (some (b, o)), .ptr (some (b', o')) => Nat.blt b N && (Nat.beq (β b) b' && Nat.beq o o')
  | .slc none n c, .slc none n' c' => Nat.beq n n' && Nat.beq c c'
  | .slc (some (b, o)) n c, .slc (some (b', o')) n' c' => Nat.blt b N && (Nat.beq (β b) b' && (Nat.beq o o' && (Nat.beq n n' && Nat.beq c c')))
  | .emp, .emp => true
  | .agg l, .agg m => CV.eqvl β N l m
  | .tup l, .tup m => CV.eqvl β N l m
  | _, _ => false
def CV.eqvl (β : Nat → Nat) (N : Nat) : List CV → List CV → Bool
  | [], [] => true
  | c :: l, d :: m => CV.eqv β N c d && CV.eqvl β N l m
  | _, _ => false
end
section
variable {P : Program} {ρ : Env}
mutual
theorem CV.eqv_ok {β : Nat → Nat} {N : Nat} {σ τ : Mp} (hβ : ∀ b, b < N → τ b = σ (β b)) : ∀ (c d : CV) {v : Value}, CV.eqv β N c d = true → VR ρ σ d v → VR ρ τ c v := by
  intro c d v h hv
  unfold CV.eqv at h
  split at h
  · rename_i a b
    obtain rfl := hv.bool_inv
    have e : a = b := by cases a <;> cases b <;> first | rfl | cases h
    subst e
    exact .bool (.c a)
  · simp only [Bool.and_eq_true, decide_eq_true_eq] at h
    obtain ⟨rfl, rfl⟩ := h
    obtain rfl := hv.int_inv
    exact .int _ (.c _)
  · cases hv; exact .ptr0
  · rename_i b o b' o'
    simp only [Bool.and_eq_true] at h
    obtain ⟨h1, h2, h3⟩ := h
    obtain rfl := Nat.eq_of_beq_eq_true h2
    obtain rfl := Nat.eq_of_beq_eq_true h3
    cases hv with
    | ptr hl => exact .ptr ((hβ b (blt_lt h1)).trans hl)
  · simp only [Bool.and_eq_true] at h
    obtain ⟨h1, h2⟩ := h
    obtain rfl := Nat.eq_of_beq_eq_true h1
    obtain rfl := Nat.eq_of_beq_eq_true h2
    cases hv; exact .slc0
  · rename_i b o n c b' o' n' c'
    simp only [Bool.and_eq_true] at h
    obtain ⟨h1, h2, h3, h4, h5⟩ := h
    obtain rfl := Nat.eq_of_beq_eq_true h2
    obtain rfl := Nat.eq_of_beq_eq_true h3
    obtain rfl := Nat.eq_of_beq_eq_true h4
    obtain rfl := Nat.eq_of_beq_eq_true h5
    cases hv with
    | slc hl hc hs => exact .slc ((hβ b (blt_lt h1)).trans hl) hc hs
  · cases hv; exact .emp _ _
  · rename_i l m
    obtain ⟨cs, rfl, h1⟩ := hv.agg_inv
    exact .agg (CV.eqvl_ok hβ l m h h1)
  · rename_i l m
    obtain ⟨cs, rfl, h1⟩ := hv.tup_inv
    exact .tup (CV.eqvl_ok hβ l m h h1)
  · cases h
theorem CV.eqvl_ok {β : Nat → Nat} {N : Nat} {σ τ : Mp} (hβ : ∀ b, b < N → τ b = σ (β b)) : ∀ (l m : List CV) {vs : List Value}, CV.eqvl β N l m = true → VRl ρ σ m vs → VRl ρ τ l vs
  | [], [], _, _, hv => by cases hv; exact .nil
  | [], d :: m, _, h, _ => by unfold CV.eqvl at h; cases h
  | c :: l, [], _, h, _ => by unfold CV.eqvl at h; cases h
  | c :: l, d :: m, _, h, hv => by
    unfold CV.eqvl at h
    simp only [Bool.and_eq_true] at h
    cases hv with
    | cons h1 t1 => exact .cons (CV.eqv_ok hβ c d h.1 h1) (CV.eqvl_ok hβ l m h.2 t1)
end
abbrev KBlk := List CV × Nat
def KBlk.blk (x : KBlk) : Blk := ⟨.lit x.1, x.2, true, none⟩
noncomputable def hB : List KBlk → Nat → Tr Blk
  | [], _ => .nil
  | x :: l, q => (hB l (q + 1)).set q (KBlk.blk x)
theorem hB_get (i : Nat) : ∀ (l : List KBlk) (q : Nat) (k : Blk), (hB l q).get i = some k → ∃ j x, i = q + j ∧ l[j]? = some x ∧ k = KBlk.blk x
  | [], q, k, h => by simp [hB, Tr.get_nil] at h
  | x :: l, q, k, h => by
    simp only [hB, Tr.get_set] at h
    by_cases hi : i = q
    · rw [if_pos hi] at h
      cases h
      exact ⟨0, x, by omega, rfl, rfl⟩
    · rw [if_neg hi] at h
      obtain ⟨j, x', h1, h2, h3⟩ := hB_get i l (q + 1) k h
      exact ⟨j + 1, x', by omega, by simpa using h2, h3⟩
def nodB : List Nat → Bool
  | [] => true
  | b :: l => !(l.any (Nat.beq b)) && nodB l
theorem nodB_ok : ∀ {l : List Nat}, nodB l = true → ∀ (i j b : Nat), l[i]? = some b → l[j]? = some b → i = j
  | [], _, i, j, b, h, _ => by simp at h
  | c :: l, h, i, j, b, hi, hj => by
    unfold nodB at h
    simp only [Bool.and_eq_true, Bool.not_eq_true'] at h
    have no : ∀ j : Nat, l[j]? = some c → False := fun j hj => by
      have := List.any_eq_false.1 h.1 c (List.mem_of_getElem? hj)
      exact this (Nat.beq_refl c)
    cases i with
    | zero =>
      cases j with
      | zero => rfl
      | succ j =>
        have e0 : c = b := by simpa using hi
        subst e0
        exact (no j (by simpa using hj)).elim
    | succ i =>
      cases j with
      | zero =>
        have e0 : c = b := by simpa using hj
        subst e0
        exact (no i (by simpa using hi)).elim
      | succ j => exact congrArg Nat.succ (nodB_ok h.2 i j b (by simpa using hi) (by simpa using hj))
/-- A call: its arguments, their blocks, what it yields, the blocks that it makes and that matter (how the run calls them): they are numbered behind the arguments' blocks. -/
structure KCall where
  g : Nat
  args : List CV
  blks : List KBlk
  c : CV
  new : List (Nat × KBlk)
def KCall.n1 (K : KCall) : Nat := K.blks.length + K.new.length
/-- What the run calls a block. -/
def KCall.old (K : KCall) (b : Nat) : Nat := bif Nat.blt b K.blks.length then b else match K.new[b - K.blks.length]? with | some x => x.1 | none => 0
noncomputable def KCall.h1 (K : KCall) : Tr Blk := hB (K.new.map (·.2)) K.blks.length
/-- The run says so. -/
noncomputable def KCall.says (K : KCall) : Option Out → Bool
  | some ⟨.val c', s1, _, []⟩ => (match s1.pc with | [] => true | _ => false) && (CV.eqv K.old K.n1 K.c c' && ((K.new.all fun x => (Nat.ble K.blks.length x.1 && Nat.blt x.1 s1.next) && match s1.heap.get x.1 with | some ⟨.lit l, e, true, none⟩ => CV.eqvl K.old K.n1 x.2.1 l && Nat.beq e x.2.2 | _ => false) && (nodB (K.new.map (·.1)) && K.blks.all fun x => CV.eqvl id K.blks.length x.1 x.1)))
  | _ => false
structure KCall.Ok (K : KCall) (P : Program) (ρ : Env) : Prop where
  fn : ∃ fn, P.funcs[K.g]? = some fn ∧ fn.body.isSome = true
  rg : K.c.rng K.blks.length K.n1 = true
  hg : ∀ x ∈ K.new, CV.rngl K.blks.length K.n1 x.2.1 = true
  ctr : Ctr P ρ K.g K.args (hB K.blks 0) K.blks.length [] K.c K.h1 K.n1
theorem KCall.of_run {K : KCall} (hP : progOk P = true) {memo : Memo} (hM : MemoOk P (ctxOf P memo) ρ) {m : Nat} (hf : (match P.funcs[K.g]? with | some fn => fn.body.isSome | none => false) = true)
    (h2 : K.c.rng K.blks.length K.n1 = true) (h3 : (K.new.all fun x => CV.rngl K.blks.length K.n1 x.2.1) = true)
    (h : K.says (eval (ctxOf P memo) m K.blks.length (.call K.g K.args) ⟨hB K.blks 0, K.blks.length, [], []⟩) = true) : K.Ok P ρ := by
  refine ⟨?_, h2, fun x hx => List.all_eq_true.1 h3 x hx, ?_, ?_⟩
  · split at hf
    · rename_i fn hfn; exact ⟨fn, hfn, hf⟩
    · cases hf
  · split at hf
    · rename_i fn hfn; exact ⟨fn, hfn, hf⟩
    · cases hf
  · intro n σ w args' ha hH hN
    generalize he : eval (ctxOf P memo) m K.blks.length (.call K.g K.args) ⟨hB K.blks 0, K.blks.length, [], []⟩ = r at h
    unfold KCall.says at h
    split at h
    · rename_i c' s1 R
      simp only [Bool.and_eq_true] at h
      obtain ⟨q1, q3, q4, q5, q6⟩ := h
      have hpc : s1.pc = [] := by
        split at q1
        · assumption
        · cases q1
      have k := (eval_ok (ρ := ρ) (ctxOf_ok hP memo) hM m).call _ _ _ _ _ _ _ _ he
      have := k.run n σ (curOf (hB K.blks 0) K.blks.length) w args' (by rw [hpc]; intro p hp; cases hp) ha hH (fun b hb => by
        rcases hb with hb | hb
        · have : b < K.blks.length := k.lt.1 b hb
          exact if_pos this
        · cases hb) (fun b hb _ => hN b hb)
      refine this.mono ?_
      rintro e' w' ⟨v, rfl, σ1, x1, x2, x3, x4, x5⟩
      have x1 : Ext σ σ1 K.blks.length s1.next := x1
      have x3 : HR ρ σ1 (upd (curOf (hB K.blks 0) K.blks.length) K.blks.length s1.next s1.heap []) w' := x3
      have x5 : Fresh σ σ1 K.blks.length s1.next K.blks.length [] w := x5
      have old0 : ∀ b, b < K.blks.length → K.old b = b := fun b hb => by
        unfold KCall.old
        rw [show Nat.blt b K.blks.length = true from Nat.ble_eq_true_of_le hb, cond_true]
      have old1 : ∀ b, ¬ b < K.blks.length → b < K.n1 → ∃ x, K.new[b - K.blks.length]? = some x ∧ K.old b = x.1 := fun b hb hb2 => by
        have hl : b - K.blks.length < K.new.length := by unfold KCall.n1 at hb2; omega
        refine ⟨_, List.getElem?_eq_getElem hl, ?_⟩
        unfold KCall.old
        have hbf : Nat.blt b K.blks.length = false := by
          cases hbb : Nat.blt b K.blks.length with
          | false => rfl
          | true => exact absurd (blt_lt hbb) hb
        rw [hbf, cond_false, List.getElem?_eq_getElem hl]
      have newOk : ∀ x ∈ K.new, (K.blks.length ≤ x.1 ∧ x.1 < s1.next) ∧ ∃ l, s1.heap.get x.1 = some ⟨.lit l, x.2.2, true, none⟩ ∧ CV.eqvl K.old K.n1 x.2.1 l = true := fun x hx => by
        have := List.all_eq_true.1 q4 x hx
        simp only [Bool.and_eq_true] at this
        obtain ⟨⟨g1, g2⟩, g3⟩ := this
        refine ⟨⟨Nat.le_of_ble_eq_true g1, blt_lt g2⟩, ?_⟩
        split at g3
        · rename_i l e hl
          simp only [Bool.and_eq_true] at g3
          obtain rfl := Nat.eq_of_beq_eq_true g3.2
          exact ⟨l, hl, g3.1⟩
        · cases g3
      obtain ⟨σ2, hσ2⟩ : ∃ σ2 : Mp, σ2 = fun b => if b < K.n1 then σ1 (K.old b) else none := ⟨_, rfl⟩
      have hβ : ∀ b, b < K.n1 → σ2 b = σ1 (K.old b) := fun b hb => by rw [hσ2]; exact if_pos hb
      have hle : K.blks.length ≤ K.n1 := by unfold KCall.n1; omega
      have hlow : ∀ b, b < K.blks.length → σ2 b = σ1 b := fun b hb => by rw [hβ b (by omega), old0 b hb]
      have get : ∀ b k, upd (curOf (hB K.blks 0) K.blks.length) K.blks.length K.n1 K.h1 [] b = some k → b < K.n1 ∧ (∃ k1, upd (curOf (hB K.blks 0) K.blks.length) K.blks.length s1.next s1.heap [] (K.old b) = some k1 ∧ k.live = k1.live ∧ k.esz = k1.esz ∧ k.ext = none ∧ k1.ro = false ∧ ∀ us, VRl ρ σ1 k1.cells us → VRl ρ σ2 k.cells us) := by
        intro b k hk
        by_cases hb : b < K.blks.length
        · refine ⟨by omega, ?_⟩
          unfold upd at hk ⊢
          rw [old0 b hb]
          rw [if_neg (by simp; omega)] at hk ⊢
          have hk2 : curOf (hB K.blks 0) K.blks.length b = some k := hk
          unfold curOf at hk2
          rw [if_pos hb] at hk2
          obtain ⟨j, x, rfl, g1, rfl⟩ := hB_get b K.blks 0 k hk2
          exact ⟨_, hk, rfl, rfl, rfl, rfl, fun us hus => CV.eqvl_ok (fun b hb => hlow b hb) _ _ (List.all_eq_true.1 q6 x (List.mem_of_getElem? g1)) hus⟩
        · by_cases hb2 : b < K.n1
          · refine ⟨hb2, ?_⟩
            unfold upd at hk
            rw [if_pos (.inr ⟨by omega, hb2⟩)] at hk
            have hk : (hB (K.new.map (·.2)) K.blks.length).get b = some k := hk
            obtain ⟨j, x, rfl, g1, rfl⟩ := hB_get b _ _ k hk
            rw [List.getElem?_map] at g1
            obtain ⟨y, hy, hyo⟩ := old1 (K.blks.length + j) hb hb2
            rw [Nat.add_sub_cancel_left] at hy
            rw [hy] at g1
            obtain rfl : y.2 = x := Option.some.inj g1
            obtain ⟨⟨r1, r2⟩, l, r3, r4⟩ := newOk y (List.mem_of_getElem? hy)
            refine ⟨⟨.lit l, y.2.2, true, none⟩, ?_, rfl, rfl, rfl, rfl, fun us hus => CV.eqvl_ok hβ _ _ r4 hus⟩
            unfold upd
            rw [hyo, if_pos (.inr ⟨r1, r2⟩)]
            exact r3
          · unfold upd at hk
            rw [if_neg (by simp; omega)] at hk
            unfold curOf at hk
            rw [if_neg hb] at hk
            cases hk
      have inj : ∀ b b', b < K.n1 → b' < K.n1 → K.old b = K.old b' → b = b' := by
        intro b b' hb hb' he
        by_cases h1 : b < K.blks.length
        · rw [old0 b h1] at he
          by_cases h2 : b' < K.blks.length
          · rw [old0 b' h2] at he; exact he
          · obtain ⟨y, hy, hyo⟩ := old1 b' h2 hb'
            have := (newOk y (List.mem_of_getElem? hy)).1.1
            omega
        · obtain ⟨x, hx, hxo⟩ := old1 b h1 hb
          by_cases h2 : b' < K.blks.length
          · rw [old0 b' h2] at he
            have := (newOk x (List.mem_of_getElem? hx)).1.1
            omega
          · obtain ⟨y, hy, hyo⟩ := old1 b' h2 hb'
            have := nodB_ok q5 (b - K.blks.length) (b' - K.blks.length) x.1 (by rw [List.getElem?_map, hx]; rfl) (by rw [List.getElem?_map, hy]; show some y.1 = some x.1; rw [← hyo, ← he, hxo])
            omega
      refine ⟨v, rfl, σ2, fun b hb => ?_, CV.eqv_ok hβ _ _ q3 x2, ?_, x4, fun b l b1 b2 b3 => ?_⟩
      · have hb : b < K.blks.length ∨ K.n1 ≤ b := hb
        rcases hb with hb | hb
        · rw [hlow b hb]; exact x1 b (.inl hb)
        · rw [hσ2, hN b (by omega)]; exact if_neg (by omega)
      · refine ⟨fun b k l a1 a2 a3 => ?_, fun b b' k k' l l' a1 a2 a3 a4 a5 a6 a7 a8 => ?_, fun b k x l a1 a2 a3 => ?_, fun b b' k k' x x' l l' a1 a2 a3 a4 a5 a6 a7 => ?_, fun y hy => ⟨(x3.glob y hy).1, fun b k l a1 a2 ar a3 => ?_⟩⟩
        · obtain ⟨hb, k1, g1, g2, g3, _, _, g5⟩ := get b k a1
          rw [hβ b hb] at a3
          obtain ⟨cs, t, p, r1, r2, r3, r4, r5, r6⟩ := x3.cell _ k1 l g1 (g2 ▸ a2) a3
          have r7 := g5 _ r6
          have hln : k.cells.length = k1.cells.length := r7.length.symm.trans r6.length
          exact ⟨cs, t, p, r1, fun _ => r2 (by assumption), r3, g3.trans r4, by rw [hln]; exact r5, by rw [hln]; exact r7⟩
        · obtain ⟨hb, k1, g1, g2, _, _, g4, _⟩ := get b k a1
          obtain ⟨hb', k1', g1', g2', _, _, g4', _⟩ := get b' k' a4
          rw [hβ b hb] at a3
          rw [hβ b' hb'] at a6
          exact inj b b' hb hb' (x3.inj _ _ k1 k1' l l' g1 (g2 ▸ a2) a3 g1' (g2' ▸ a5) a6 a7 (.inl g4))
        · obtain ⟨_, _, _, _, _, g, _⟩ := get b k a1
          rw [g] at a2; cases a2
        · obtain ⟨_, _, _, _, _, g, _⟩ := get b k a1
          rw [g] at a2; cases a2
        · obtain ⟨hb, k1, g1, g2, _, _, g4, _⟩ := get b k a1
          rw [hβ b hb] at a3
          exact (x3.glob y hy).2 _ k1 l g1 (g2 ▸ a2) g4 a3
      · have b2 : b < K.n1 := b2
        have hnb : ¬ b < K.blks.length := by have b1 : K.blks.length ≤ b := b1; omega
        rw [hβ b b2] at b3
        obtain ⟨y, hy, hyo⟩ := old1 b hnb b2
        obtain ⟨⟨r1, r2⟩, _⟩ := newOk y (List.mem_of_getElem? hy)
        rw [hyo] at b3
        exact x5 y.1 l r1 r2 b3
    · cases h
/-- The new blocks, by the numbers that they get. -/
def newL (q : Nat) : List (Nat × KBlk) → List (Nat × Blk)
  | [] => []
  | x :: l => (q, KBlk.blk x.2) :: newL (q + 1) l
def KCall.newB (K : KCall) : List (Nat × Blk) := newL K.blks.length K.new
theorem newL_mem : ∀ {l : List (Nat × KBlk)} {q : Nat} {y : Nat × Blk}, y ∈ newL q l → (q ≤ y.1 ∧ y.1 < q + l.length) ∧ ∃ x ∈ l, y.2 = KBlk.blk x.2
  | [], q, y, h => by cases h
  | x :: l, q, y, h => by
    rcases List.mem_cons.1 h with rfl | h
    · exact ⟨⟨Nat.le_refl _, by simp⟩, x, List.mem_cons_self .., rfl⟩
    · obtain ⟨⟨h1, h2⟩, z, hz, e⟩ := newL_mem h
      exact ⟨⟨by omega, by simp only [List.length_cons]; omega⟩, z, List.mem_cons_of_mem _ hz, e⟩
theorem newL_find : ∀ (l : List (Nat × KBlk)) (q b : Nat), (newL q l).find? (fun x => x.1 == b) = if q ≤ b then (l[b - q]?).map (fun x => (b, KBlk.blk x.2)) else none
  | [], q, b => by simp [newL]
  | x :: l, q, b => by
    rw [newL, List.find?_cons]
    by_cases h : q = b
    · subst h; simp
    · have hf : (q == b) = false := by simpa using h
      rw [hf, newL_find l (q + 1) b]
      by_cases h2 : q + 1 ≤ b
      · rw [if_pos h2, if_pos (by omega), show b - q = (b - (q + 1)) + 1 by omega, List.getElem?_cons_succ]
      · rw [if_neg h2, if_neg (by omega)]
theorem hB_at : ∀ (l : List KBlk) (q b : Nat), (hB l q).get b = if q ≤ b then (l[b - q]?).map KBlk.blk else none
  | [], q, b => by simp [hB, Tr.get_nil]
  | x :: l, q, b => by
    rw [hB, Tr.get_set]
    by_cases h : b = q
    · subst h; simp
    · rw [if_neg h, hB_at l (q + 1) b]
      by_cases h2 : q + 1 ≤ b
      · rw [if_pos h2, if_pos (by omega), show b - q = (b - (q + 1)) + 1 by omega, List.getElem?_cons_succ]
      · rw [if_neg h2, if_neg (by omega)]
/-! ## The memo -/
def insM (b b' : Nat) (m : List (Nat × Nat)) : List (Nat × Nat) := bif m.any (fun x => Nat.beq x.1 b) then m else (b, b') :: m
mutual
def CV.uni : CV → CV → List (Nat × Nat) → List (Nat × Nat)
  | .ptr (some (b, _)), .ptr (some (b', _)), m => insM b b' m
  | .slc (some (b, _)) _ _, .slc (some (b', _)) _ _, m => insM b b' m
  | .agg l, .agg l', m => CV.unil l l' m
  | .tup l, .tup l', m => CV.unil l l' m
  | _, _, m => m
def CV.unil : List CV → List CV → List (Nat × Nat) → List (Nat × Nat)
  | c :: l, d :: l', m => CV.unil l l' (CV.uni c d m)
  | _, _, m => m
end
def lookM (m : List (Nat × Nat)) (b : Nat) : Nat := match m.find? (fun x => Nat.beq x.1 b) with | some x => x.2 | none => 0
noncomputable def uniB (s : St) : List KBlk → Nat → List (Nat × Nat) → List (Nat × Nat)
  | [], _, m => m
  | x :: l, i, m => uniB s l (i + 1) (match s.heap.get (lookM m i) with | some ⟨.lit k, _, _, _⟩ => CV.unil x.1 k m | _ => m)
noncomputable def chkB (s : St) (β : Nat → Nat) (N : Nat) : List KBlk → Nat → Bool
  | [], _ => true
  | x :: l, i => (match s.heap.get (β i) with | some ⟨.lit k, e, true, none⟩ => CV.eqvl β N x.1 k && (Nat.beq e x.2 && Nat.blt (β i) s.next) | _ => false) && chkB s β N l (i + 1)
theorem chkB_ok {s : St} {β : Nat → Nat} {N : Nat} : ∀ {l : List KBlk} {q : Nat}, chkB s β N l q = true → ∀ j x, l[j]? = some x → ∃ k e, s.heap.get (β (q + j)) = some ⟨.lit k, e, true, none⟩ ∧ CV.eqvl β N x.1 k = true ∧ e = x.2 ∧ β (q + j) < s.next
  | [], q, _, j, x, h => by simp at h
  | y :: l, q, h, j, x, hx => by
    unfold chkB at h
    simp only [Bool.and_eq_true] at h
    obtain ⟨h1, h2⟩ := h
    cases j with
    | zero =>
      have e0 : y = x := by simpa using hx
      subst e0
      split at h1
      · rename_i k e hk
        simp only [Bool.and_eq_true] at h1
        exact ⟨k, e, hk, h1.1, Nat.eq_of_beq_eq_true h1.2.1, blt_lt h1.2.2⟩
      · cases h1
    | succ j =>
      have := chkB_ok h2 j x (by simpa using hx)
      rw [show q + 1 + j = q + (j + 1) by omega] at this
      exact this
/-- The names that the blocks have. -/
noncomputable def KCall.bs (K : KCall) (s : St) (args : List CV) : List Nat := (List.range K.blks.length).map (lookM (uniB s K.blks 0 (CV.unil K.args args [])))
def bOf (bs : List Nat) (i : Nat) : Nat := (bs[i]?).getD 0
noncomputable def KCall.fits (K : KCall) (s : St) (args : List CV) (bs : List Nat) : Bool :=
  CV.eqvl (bOf bs) K.blks.length K.args args && (chkB s (bOf bs) K.blks.length K.blks 0 && (nodB bs && Nat.beq bs.length K.blks.length))
noncomputable def memoK (K : KCall) (inner : Memo) : Memo := fun f args s =>
  bif Nat.beq f K.g && K.fits s args (K.bs s args) then
    some (K.c.ren (liftName K.blks.length s.next), { s with heap := putNew K.blks.length s.next s.heap K.newB, next := s.next + (K.n1 - K.blks.length) }, K.bs s args, [])
  else inner f args s
theorem memoK_ok {K : KCall} {inner : Memo} (hK : K.Ok P ρ) (hi : MemoOk P (ctxOf P inner) ρ) : MemoOk P (ctxOf P (memoK K inner)) ρ := by
  have lift : ∀ {f args s c s' R' W}, CallOk P (ctxOf P inner) ρ f args s c s' R' W → CallOk P (ctxOf P (memoK K inner)) ρ f args s c s' R' W := fun h => ⟨h.fn, h.frm, h.lt, h.run⟩
  intro f args s c s' R' W h0
  have h : memoK K inner f args s = some (c, s', R', W) := h0
  clear h0
  unfold memoK at h
  generalize hbs : K.bs s args = bs at h
  cases hf : (Nat.beq f K.g && K.fits s args bs) with
  | false => rw [hf, cond_false] at h; exact lift (hi _ _ _ _ _ _ _ h)
  | true =>
    rw [hf, cond_true] at h
    cases h
    simp only [Bool.and_eq_true, KCall.fits] at hf
    obtain ⟨f1, f2, f3, f4, f5⟩ := hf
    obtain rfl := Nat.eq_of_beq_eq_true f1
    have hlen := Nat.eq_of_beq_eq_true f5
    have hblk := chkB_ok f3
    have at' : ∀ i, i < K.blks.length → R'[i]? = some (bOf R' i) := fun i hi => by
      unfold bOf
      rw [List.getElem?_eq_getElem (by omega)]
      rfl
    have rngw : ∀ x ∈ K.newB, K.blks.length ≤ x.1 ∧ x.1 < K.n1 := fun x hx => (newL_mem hx).1
    refine Ctr.callS (base := K.blks.length) (n1 := K.n1) (args := K.args) (h0 := hB K.blks 0) (h1 := K.h1) (K := fun _ => hK.ctr) hK.fn (by unfold KCall.n1; omega) rfl ⟨[], rfl⟩ (fun b hb => ?_) (fun j hj kb hk => ?_) (fun b hb => ?_) (fun σ cur w l hp hl hH hcur => ?_) (fun σ σ2 v hl h => VR.lift hl h hK.rg)
    · show (putNew _ _ _ _).get b = _
      rw [get_putNew]
      split
      · rename_i x hx
        have h1 := List.find?_some hx
        have h2 := List.mem_of_find?_eq_some hx
        simp only [beq_iff_eq] at h1
        obtain ⟨q1, q2⟩ := rngw _ h2
        refine absurd ?_ hb
        show s.next ≤ b ∧ b < s.next + (K.n1 - K.blks.length)
        unfold liftName at h1
        omega
      · rfl
    · have hk : (putNew K.blks.length s.next s.heap K.newB).get (s.next + j) = some kb := hk
      rw [get_putNew] at hk
      have e : ∀ x ∈ K.newB, (liftName K.blks.length s.next x.1 == s.next + j) = (x.1 == K.blks.length + j) := fun x hx => by
        obtain ⟨q1, q2⟩ := rngw x hx
        unfold liftName
        rw [Bool.eq_iff_iff]
        simp only [beq_iff_eq]
        omega
      have hcg := find_congr e
      rw [hcg] at hk
      have hjl : j < K.new.length := by unfold KCall.n1 at hj; omega
      have hfd : K.newB.find? (fun x => x.1 == K.blks.length + j) = some (K.blks.length + j, KBlk.blk K.new[j].2) := by
        unfold KCall.newB
        rw [newL_find, if_pos (by omega), Nat.add_sub_cancel_left, List.getElem?_eq_getElem hjl]
        rfl
      rw [hfd] at hk
      cases hk
      have hmem : K.new[j] ∈ K.new := List.getElem_mem hjl
      have g1 := hK.hg _ hmem
      refine ⟨KBlk.blk K.new[j].2, ?_, rfl, rfl, rfl, fun h => rfl, fun σ σ2 us hl h => Blk.lift (k := KBlk.blk K.new[j].2) hl g1 h⟩
      unfold KCall.h1
      rw [hB_at, if_pos (by omega), Nat.add_sub_cancel_left, List.getElem?_map, List.getElem?_eq_getElem hjl]
      rfl
    · obtain ⟨i, hi'⟩ := List.getElem?_of_mem hb
      have hil : i < K.blks.length := by
        have := (List.getElem?_eq_some_iff.1 hi').1
        omega
      obtain ⟨k, e, _, _, _, q⟩ := hblk i _ (List.getElem?_eq_getElem hil)
      rw [Nat.zero_add] at q
      have := at' i hil
      rw [hi'] at this
      rw [Option.some.inj this]; exact q
    · have hτ : ∀ b, b < K.blks.length → (fun i => if i < K.blks.length then σ (bOf R' i) else none) b = σ (bOf R' b) := fun b hb => if_pos hb
      refine ⟨fun i => if i < K.blks.length then σ (bOf R' i) else none, CV.eqvl_ok hτ _ _ f2 hl, ?_, fun b hb => if_neg (by omega)⟩
      have get : ∀ b k, curOf (hB K.blks 0) K.blks.length b = some k → ∃ x k1, b < K.blks.length ∧ k = KBlk.blk x ∧ cur (bOf R' b) = some ⟨.lit k1, x.2, true, none⟩ ∧ ∀ us, VRl ρ σ k1 us → VRl ρ (fun i => if i < K.blks.length then σ (bOf R' i) else none) x.1 us := by
        intro b k hk
        unfold curOf at hk
        split at hk
        · rename_i hb
          obtain ⟨j, x, rfl, g1, rfl⟩ := hB_get b K.blks 0 k hk
          obtain ⟨k1, e, c1, c2, rfl, c4⟩ := hblk j x g1
          have hm : bOf R' (0 + j) ∈ R' := List.mem_of_getElem? (at' _ hb)
          exact ⟨x, k1, hb, rfl, (hcur _ hm).trans c1, fun us hus => CV.eqvl_ok hτ _ _ c2 hus⟩
        · cases hk
      refine ⟨fun b k l a1 a2 a3 => ?_, fun b b' k k' l l' a1 a2 a3 a4 a5 a6 a7 a8 => ?_, fun b k x l a1 a2 a3 => ?_, fun b b' k k' x x' l l' a1 a2 a3 a4 a5 a6 a7 => ?_, fun y hy => ⟨(hH.glob y hy).1, fun b k l a1 a2 ar a3 => ?_⟩⟩
      · obtain ⟨x, k1, hb, rfl, q1, q2⟩ := get b k a1
        have a3 : (if b < K.blks.length then σ (bOf R' b) else none) = some l := a3
        rw [if_pos hb] at a3
        obtain ⟨cs, t, p, r1, r2, r3, r4, r5, r6⟩ := hH.cell _ _ l q1 rfl a3
        have r7 := q2 _ r6
        have r6l := r6.length
        have r7l := r7.length
        have e1 : Blk.cells ⟨.lit k1, x.2, true, none⟩ = k1 := rfl
        have e2 : Blk.cells (KBlk.blk x) = x.1 := rfl
        rw [e1] at r5 r6 r7 r7l r6l
        have hln : x.1.length = k1.length := r7l.symm.trans r6l
        exact ⟨cs, t, p, r1, fun _ => r2 rfl, r3, r4, by rw [e2, hln]; exact r5, by rw [e2, hln]; exact r7⟩
      · obtain ⟨x, k1, hb, rfl, q1, _⟩ := get b k a1
        obtain ⟨x', k1', hb', rfl, q1', _⟩ := get b' k' a4
        have a3 : (if b < K.blks.length then σ (bOf R' b) else none) = some l := a3
        have a6 : (if b' < K.blks.length then σ (bOf R' b') else none) = some l' := a6
        rw [if_pos hb] at a3
        rw [if_pos hb'] at a6
        have := hH.inj _ _ _ _ l l' q1 rfl a3 q1' rfl a6 a7 (.inl rfl)
        exact nodB_ok f4 b b' _ (at' b hb) (by rw [this]; exact at' b' hb')
      · obtain ⟨x', k1, hb, rfl, _⟩ := get b k a1
        cases a2
      · obtain ⟨x', k1, hb, rfl, _⟩ := get b k a1
        cases a2
      · obtain ⟨x', k1, hb, rfl, q1, _⟩ := get b k a1
        have a3 : (if b < K.blks.length then σ (bOf R' b) else none) = some l := a3
        rw [if_pos hb] at a3
        exact (hH.glob y hy).2 _ _ l q1 rfl rfl a3
end
end Go.Proofs.Ythagjhadjpangaa.Cx

/- Calls that acme/acmelaw07.known makes, each known by a run of its own. Made by tools/cxkcalls.py. -/
namespace Go.Proofs.Ythagjhadjpangaa.Cx
set_option maxRecDepth 100000
set_option linter.unusedVariables false
open Go Go.Proofs Go.RowKit
def CxKn07K0 : KCall := ⟨18, [.agg [.bool (.c false), .int .i64 (.c (-1000)), .int .i64 (.c 1000), .int .i64 (.c (-500)), .int .i64 (.c 500), .slc (some (0, 0)) 2 2], .slc (some (1, 0)) 2 2, .int .i64 (.c 0), .int .i64 (.c 200)], [([.int .i64 (.c 10), .int .i64 (.c 20), .int .i64 (.c 50), .int .i64 (.c 100)], 2), ([.int .i64 (.c 200), .int .i64 (.c 0), .int .i64 (.c 100000), .int .i64 (.c 110000), .int .i64 (.c 100), .int .i64 (.c 1), .int .i64 (.c 100000), .int .i64 (.c 110000)], 4)], .tup [.agg [.int .i64 (.c 2000), .int .i64 (.c 4000)], .int .i64 (.c 0)], []⟩
theorem CxKn07K0_run : CxKn07K0.says (eval (ctxOf Try.prog memo0) 1000 CxKn07K0.blks.length (.call CxKn07K0.g CxKn07K0.args) ⟨hB CxKn07K0.blks 0, CxKn07K0.blks.length, [], []⟩) = true := by kernel_rfl
theorem CxKn07K0_ok {ρ : Env} : CxKn07K0.Ok Try.prog ρ := KCall.of_run try_ok memo0_ok (by kernel_rfl) (by kernel_rfl) (by kernel_rfl) CxKn07K0_run
def CxKn07K1 : KCall := ⟨19, [.agg [.bool (.c false), .int .i64 (.c (-1000)), .int .i64 (.c 1000), .int .i64 (.c (-500)), .int .i64 (.c 500), .slc (some (0, 0)) 2 2], .slc (some (1, 0)) 2 2, .int .i64 (.c 0), .int .i64 (.c 200)], [([.int .i64 (.c 10), .int .i64 (.c 20), .int .i64 (.c 50), .int .i64 (.c 100)], 2), ([.int .i64 (.c 200), .int .i64 (.c 0), .int .i64 (.c 100000), .int .i64 (.c 110000), .int .i64 (.c 100), .int .i64 (.c 1), .int .i64 (.c 100000), .int .i64 (.c 110000)], 4)], .tup [.agg [.int .i64 (.c 101500), .int .i64 (.c 104520)], .int .i64 (.c 0)], []⟩
theorem CxKn07K1_run : CxKn07K1.says (eval (ctxOf Try.prog memo0) 1000 CxKn07K1.blks.length (.call CxKn07K1.g CxKn07K1.args) ⟨hB CxKn07K1.blks 0, CxKn07K1.blks.length, [], []⟩) = true := by kernel_rfl
theorem CxKn07K1_ok {ρ : Env} : CxKn07K1.Ok Try.prog ρ := KCall.of_run try_ok memo0_ok (by kernel_rfl) (by kernel_rfl) (by kernel_rfl) CxKn07K1_run
end Go.Proofs.Ythagjhadjpangaa.Cx

/- Calls that acme/acmelaw07.known makes, each known by a run of its own. Made by tools/cxkcalls.py. -/
namespace Go.Proofs.Ythagjhadjpangaa.Cx
set_option maxRecDepth 100000
set_option linter.unusedVariables false
open Go Go.Proofs Go.RowKit
def CxKn07K2 : KCall := ⟨25, [.agg [.bool (.c false), .int .i64 (.c (-1000)), .int .i64 (.c 1000), .int .i64 (.c (-500)), .int .i64 (.c 500), .slc (some (0, 0)) 2 2], .slc (some (1, 0)) 2 2, .int .i64 (.c 0)], [([.int .i64 (.c 10), .int .i64 (.c 20), .int .i64 (.c 50), .int .i64 (.c 100)], 2), ([.int .i64 (.c 200), .int .i64 (.c 0), .int .i64 (.c 100000), .int .i64 (.c 110000), .int .i64 (.c 100), .int .i64 (.c 1), .int .i64 (.c 100000), .int .i64 (.c 110000)], 4)], .tup [.int .i64 (.c 231), .int .i64 (.c 0)], []⟩
theorem CxKn07K2_run : CxKn07K2.says (eval (ctxOf Try.prog memo0) 1000 CxKn07K2.blks.length (.call CxKn07K2.g CxKn07K2.args) ⟨hB CxKn07K2.blks 0, CxKn07K2.blks.length, [], []⟩) = true := by kernel_rfl
theorem CxKn07K2_ok {ρ : Env} : CxKn07K2.Ok Try.prog ρ := KCall.of_run try_ok memo0_ok (by kernel_rfl) (by kernel_rfl) (by kernel_rfl) CxKn07K2_run
def CxKn07K3 : KCall := ⟨26, [.agg [.bool (.c false), .int .i64 (.c (-1000)), .int .i64 (.c 1000), .int .i64 (.c (-500)), .int .i64 (.c 500), .slc (some (0, 0)) 2 2], .slc (some (1, 0)) 2 2], [([.int .i64 (.c 10), .int .i64 (.c 20), .int .i64 (.c 50), .int .i64 (.c 100)], 2), ([.int .i64 (.c 200), .int .i64 (.c 0), .int .i64 (.c 100000), .int .i64 (.c 110000), .int .i64 (.c 100), .int .i64 (.c 1), .int .i64 (.c 100000), .int .i64 (.c 110000)], 4)], .tup [.slc (some (2, 0)) 2 2, .int .i64 (.c 0)], [(725, ([.int .i64 (.c 0), .int .i64 (.c 101500), .int .i64 (.c 231), .int .i64 (.c 101500)], 2))]⟩
theorem CxKn07K3_run : CxKn07K3.says (eval (ctxOf Try.prog memo0) 1000 CxKn07K3.blks.length (.call CxKn07K3.g CxKn07K3.args) ⟨hB CxKn07K3.blks 0, CxKn07K3.blks.length, [], []⟩) = true := by kernel_rfl
theorem CxKn07K3_ok {ρ : Env} : CxKn07K3.Ok Try.prog ρ := KCall.of_run try_ok memo0_ok (by kernel_rfl) (by kernel_rfl) (by kernel_rfl) CxKn07K3_run
end Go.Proofs.Ythagjhadjpangaa.Cx

/- Calls that acme/acmelaw07.known makes, each known by a run of its own. Made by tools/cxkcalls.py. -/
namespace Go.Proofs.Ythagjhadjpangaa.Cx
set_option maxRecDepth 100000
set_option linter.unusedVariables false
open Go Go.Proofs Go.RowKit
def CxKn07K4 : KCall := ⟨30, [.agg [.bool (.c false), .int .i64 (.c (-1000)), .int .i64 (.c 1000), .int .i64 (.c (-500)), .int .i64 (.c 500), .slc (some (0, 0)) 2 2], .slc (some (1, 0)) 2 2, .int .i64 (.c 1)], [([.int .i64 (.c 10), .int .i64 (.c 20), .int .i64 (.c 50), .int .i64 (.c 100)], 2), ([.int .i64 (.c 200), .int .i64 (.c 0), .int .i64 (.c 100000), .int .i64 (.c 110000), .int .i64 (.c 100), .int .i64 (.c 1), .int .i64 (.c 100000), .int .i64 (.c 110000)], 4)], .tup [.int .i64 (.c 231), .int .i64 (.c 0)], []⟩
theorem CxKn07K4_run : CxKn07K4.says (eval (ctxOf Try.prog memo0) 1000 CxKn07K4.blks.length (.call CxKn07K4.g CxKn07K4.args) ⟨hB CxKn07K4.blks 0, CxKn07K4.blks.length, [], []⟩) = true := by kernel_rfl
theorem CxKn07K4_ok {ρ : Env} : CxKn07K4.Ok Try.prog ρ := KCall.of_run try_ok memo0_ok (by kernel_rfl) (by kernel_rfl) (by kernel_rfl) CxKn07K4_run
def CxKn07K5 : KCall := ⟨34, [.agg [.bool (.c false), .int .i64 (.c (-1000)), .int .i64 (.c 1000), .int .i64 (.c (-500)), .int .i64 (.c 500), .slc (some (0, 0)) 2 2], .slc (some (1, 0)) 2 2, .slc (some (2, 0)) 1 1], [([.int .i64 (.c 10), .int .i64 (.c 20), .int .i64 (.c 50), .int .i64 (.c 100)], 2), ([.int .i64 (.c 200), .int .i64 (.c 0), .int .i64 (.c 100000), .int .i64 (.c 110000), .int .i64 (.c 100), .int .i64 (.c 1), .int .i64 (.c 100000), .int .i64 (.c 110000)], 4), ([.int .i64 (.c 0), .int .i64 (.c 102000)], 2)], .tup [.int .i64 (.c 226), .int .i64 (.c 0)], []⟩
theorem CxKn07K5_run : CxKn07K5.says (eval (ctxOf Try.prog memo0) 1000 CxKn07K5.blks.length (.call CxKn07K5.g CxKn07K5.args) ⟨hB CxKn07K5.blks 0, CxKn07K5.blks.length, [], []⟩) = true := by kernel_rfl
theorem CxKn07K5_ok {ρ : Env} : CxKn07K5.Ok Try.prog ρ := KCall.of_run try_ok memo0_ok (by kernel_rfl) (by kernel_rfl) (by kernel_rfl) CxKn07K5_run
end Go.Proofs.Ythagjhadjpangaa.Cx

/- Calls that acme/acmelaw07.known makes, each known by a run of its own. Made by tools/cxkcalls.py. -/
namespace Go.Proofs.Ythagjhadjpangaa.Cx
set_option maxRecDepth 100000
set_option linter.unusedVariables false
open Go Go.Proofs Go.RowKit
def CxKn07K6 : KCall := ⟨35, [.agg [.bool (.c false), .int .i64 (.c (-1000)), .int .i64 (.c 1000), .int .i64 (.c (-500)), .int .i64 (.c 500), .slc (some (0, 0)) 2 2], .slc (some (1, 0)) 2 2, .slc (some (2, 0)) 2 2], [([.int .i64 (.c 10), .int .i64 (.c 20), .int .i64 (.c 50), .int .i64 (.c 100)], 2), ([.int .i64 (.c 200), .int .i64 (.c 0), .int .i64 (.c 100000), .int .i64 (.c 110000), .int .i64 (.c 100), .int .i64 (.c 1), .int .i64 (.c 100000), .int .i64 (.c 110000)], 4), ([.int .i64 (.c 0), .int .i64 (.c 231)], 1)], .tup [.int .i64 (.c (-1)), .int .i64 (.c 0)], []⟩
theorem CxKn07K6_run : CxKn07K6.says (eval (ctxOf Try.prog memo0) 1000 CxKn07K6.blks.length (.call CxKn07K6.g CxKn07K6.args) ⟨hB CxKn07K6.blks 0, CxKn07K6.blks.length, [], []⟩) = true := by kernel_rfl
theorem CxKn07K6_ok {ρ : Env} : CxKn07K6.Ok Try.prog ρ := KCall.of_run try_ok memo0_ok (by kernel_rfl) (by kernel_rfl) (by kernel_rfl) CxKn07K6_run
def CxKn07K7 : KCall := ⟨35, [.agg [.bool (.c false), .int .i64 (.c (-1000)), .int .i64 (.c 1000), .int .i64 (.c (-500)), .int .i64 (.c 500), .slc (some (0, 0)) 2 2], .slc (some (1, 0)) 2 2, .slc (some (2, 0)) 2 2], [([.int .i64 (.c 10), .int .i64 (.c 20), .int .i64 (.c 50), .int .i64 (.c 100)], 2), ([.int .i64 (.c 200), .int .i64 (.c 0), .int .i64 (.c 100000), .int .i64 (.c 110000), .int .i64 (.c 100), .int .i64 (.c 1), .int .i64 (.c 100000), .int .i64 (.c 110000)], 4), ([.int .i64 (.c 0), .int .i64 (.c 230)], 1)], .tup [.int .i64 (.c 0), .int .i64 (.c 0)], []⟩
theorem CxKn07K7_run : CxKn07K7.says (eval (ctxOf Try.prog memo0) 1000 CxKn07K7.blks.length (.call CxKn07K7.g CxKn07K7.args) ⟨hB CxKn07K7.blks 0, CxKn07K7.blks.length, [], []⟩) = true := by kernel_rfl
theorem CxKn07K7_ok {ρ : Env} : CxKn07K7.Ok Try.prog ρ := KCall.of_run try_ok memo0_ok (by kernel_rfl) (by kernel_rfl) (by kernel_rfl) CxKn07K7_run
end Go.Proofs.Ythagjhadjpangaa.Cx

/- Calls that acme/acmelaw07.known makes, each known by a run of its own. Made by tools/cxkcalls.py. -/
namespace Go.Proofs.Ythagjhadjpangaa.Cx
set_option maxRecDepth 100000
set_option linter.unusedVariables false
open Go Go.Proofs Go.RowKit
def CxKn07K8 : KCall := ⟨41, [.agg [.bool (.c false), .int .i64 (.c (-1000)), .int .i64 (.c 1000), .int .i64 (.c (-500)), .int .i64 (.c 500), .slc (some (0, 0)) 2 2], .agg [.int .i64 (.c 102400), .int .i64 (.c 103600)], .int .i64 (.c 1), .agg [.int .i64 (.c 100000), .int .i64 (.c 110000)]], [([.int .i64 (.c 10), .int .i64 (.c 20), .int .i64 (.c 50), .int .i64 (.c 100)], 2)], .tup [.int .i64 (.c 60), .int .i64 (.c 0)], []⟩
theorem CxKn07K8_run : CxKn07K8.says (eval (ctxOf Try.prog memo0) 1000 CxKn07K8.blks.length (.call CxKn07K8.g CxKn07K8.args) ⟨hB CxKn07K8.blks 0, CxKn07K8.blks.length, [], []⟩) = true := by kernel_rfl
theorem CxKn07K8_ok {ρ : Env} : CxKn07K8.Ok Try.prog ρ := KCall.of_run try_ok memo0_ok (by kernel_rfl) (by kernel_rfl) (by kernel_rfl) CxKn07K8_run
end Go.Proofs.Ythagjhadjpangaa.Cx

/- acme/acmelaw07.known returns true, in every world that holds what the listed variables hold: by the evaluator, its heavy calls by runs of their own. Made by tools/cxkcalls.py. -/
namespace Go.Proofs.Ythagjhadjpangaa.Cx
set_option maxRecDepth 100000
set_option linter.unusedVariables false
open Go Go.Proofs Go.RowKit
noncomputable def CxKn07C : Ctx := ctxOf Try.prog (memoK CxKn07K0 (memoK CxKn07K1 (memoK CxKn07K2 (memoK CxKn07K3 (memoK CxKn07K4 (memoK CxKn07K5 (memoK CxKn07K6 (memoK CxKn07K7 (memoK CxKn07K8 memo0)))))))))
theorem CxKn07_run : isTrue (eval CxKn07C 1000 0 (.call 14 []) .empty) = true := by kernel_rfl
theorem CxKn07_known : KnownB Try.prog 14 := known_of try_ok (memoK_ok CxKn07K0_ok (memoK_ok CxKn07K1_ok (memoK_ok CxKn07K2_ok (memoK_ok CxKn07K3_ok (memoK_ok CxKn07K4_ok (memoK_ok CxKn07K5_ok (memoK_ok CxKn07K6_ok (memoK_ok CxKn07K7_ok (memoK_ok CxKn07K8_ok memo0_ok))))))))) (by kernel_rfl) CxKn07_run
end Go.Proofs.Ythagjhadjpangaa.Cx

/- acme/acmelaw07.DieSure as an automaton. Made by tools/cxauto.py. -/
namespace Go.Proofs.Ythagjhadjpangaa.Cx
set_option linter.unusedVariables false
set_option linter.unusedSimpArgs false
set_option maxRecDepth 100000
open Go Go.Proofs Go.RowKit
noncomputable abbrev dlsCode : Code := funcCode Try.f8
inductive dlsN where
  | n0 (p0 : Nat) (p1 : Int) (p2 : Nat) (p3 p4 : Int) (p5 : Bool) (p6 p7 p8 p9 : Int) (p10 p11 : Nat) (p12 p13 p14 p15 : Nat → Int) (p16 : Nat) (p17 p18 : Nat → Int) (p19 : Nat) (p20 p21 : Nat → Int)
abbrev dlsR := Bool
noncomputable def dlsD0 (a0 : Bool) (a1 a2 : Int) (a3 : Nat) (a4 a5 : Nat → Int) (a6 : Nat) (a7 a8 a9 a10 : Nat → Int) (a11 : Nat) (a12 : Nat → Int) (a13 a14 : Int) : DD (Lf dlsN dlsR) :=
 let z0 := decide (0 + a3 ≤ a3)
 let z1 := fun i => [CV.int IntKind.u8 (IE.x (a4 (0 + i))), CV.int IntKind.u8 (IE.x (a5 (0 + i)))]
 let z2 := ShapeOk [some IntKind.u8, some IntKind.u8] (tabOf a3 z1) z1
 let z3 := decide (0 + a6 ≤ a6)
 let z4 := fun i => [CV.int IntKind.u8 (IE.x (a7 (0 + i))), CV.int IntKind.u8 (IE.x (a8 (0 + i))), CV.int IntKind.u8 (IE.x (a9 (0 + i))), CV.int IntKind.u8 (IE.x (a10 (0 + i)))]
 let z5 := ShapeOk [some IntKind.u8, some IntKind.u8, some IntKind.u8, some IntKind.u8] (tabOf a6 z4) z4
 let z6 := decide (0 + a11 ≤ a11)
 let z7 := fun i => [CV.int IntKind.u8 (IE.x (a12 (0 + i)))]
 let z8 := ShapeOk [some IntKind.u8] (tabOf a11 z7) z7
 let z9 := fun i => a4 (0 + i)
 let z10 := fun i => a5 (0 + i)
 let z11 := fun i => a7 (0 + i)
 let z12 := fun i => a8 (0 + i)
 let z13 := fun i => a9 (0 + i)
 let z14 := fun i => a10 (0 + i)
 let z15 := fun i => a12 (0 + i)
 let z16 := dtoA a0 a1 a2 a3 z9 z10 a6 z11 z12 z13 z14 a11 z15
 let z17 := dosA a0 a1 a2 a3 z9 z10 a6 z11 z12 z13 z14 a11 z15
 let z18 := AF.val z17
 let z19 := decide (0 + dosw0 z18 ≤ dosw0 z18)
 let z20 := dosw0 z18
 let z21 := fun i => [CV.int IntKind.i64 (IE.x (dosw1 z18 (0 + i))), CV.int IntKind.i64 (IE.x (dosw2 z18 (0 + i))), CV.int IntKind.i64 (IE.x (dosw3 z18 (0 + i))), CV.int IntKind.i64 (IE.x (dosw4 z18 (0 + i)))]
 let z22 := dalA z20 (fun i => dosw1 z18 (0 + i)) (fun i => dosw2 z18 (0 + i)) (fun i => dosw3 z18 (0 + i)) (fun i => dosw4 z18 (0 + i))
 let z23 := AF.val z16
 let z24 := decide (0 + dtow5 z23 ≤ dtow5 z23)
 let z25 := dtow5 z23
 let z26 := fun i => [CV.int IntKind.i64 (IE.x (dtow6 z23 (0 + (0 + i)))), CV.int IntKind.i64 (IE.x (dtow7 z23 (0 + (0 + i))))]
 let z27 := fun i => [CV.int IntKind.i64 (IE.x (dosw1 z18 (0 + (0 + i)))), CV.int IntKind.i64 (IE.x (dosw2 z18 (0 + (0 + i)))), CV.int IntKind.i64 (IE.x (dosw3 z18 (0 + (0 + i)))), CV.int IntKind.i64 (IE.x (dosw4 z18 (0 + (0 + i))))]
 let z28 := dtow0 z23
 let z29 := dtow1 z23
 let z30 := dtow2 z23
 let z31 := dtow3 z23
 let z32 := dtow4 z23
 let z33 := dplA z28 z29 z30 z31 z32 z25 (fun i => dtow6 z23 (0 + (0 + i))) (fun i => dtow7 z23 (0 + (0 + i))) z20 (fun i => dosw1 z18 (0 + (0 + i))) (fun i => dosw2 z18 (0 + (0 + i))) (fun i => dosw3 z18 (0 + (0 + i))) (fun i => dosw4 z18 (0 + (0 + i)))
 let z34 := AF.val z33
 let z35 := dplw1 z34
 let z36 := dplw0 z34
 let z37 := (↑z36 : Int)
 let z38 := Cm.run .eql z35 0
 let z39 := AF.val z22
 let z40 := fun i => dosw1 z18 i
 let z41 := fun i => dosw2 z18 i
 let z42 := fun i => dosw3 z18 i
 let z43 := fun i => dosw4 z18 i
 let z44 := fun i => dplw2 z34 i
 let z45 := fun i => dplw3 z34 i
 let z46 := fun i => dtow6 z23 i
 let z47 := fun i => dtow7 z23 i
 .must z0
   (.must z2
   (.must z3
   (.must z5
   (.must z6
   (.must z8
   (.must (AF.fin z16)
   (.must z0
   (.must z2
   (.must z3
   (.must z5
   (.must z6
   (.must z8
   (.must (AF.fin z17)
   (.must z19
   (.must (ShapeOk [some IntKind.i64, some IntKind.i64, some IntKind.i64, some IntKind.i64] (tabOf z20 z21) z21)
   (.must (AF.fin z22)
   (.must z24
   (.must (decide (dtow5 z23 ≤ 10000))
   (.must z19
   (.must (decide (dosw0 z18 ≤ 10000))
   (.must z24
   (.must (ShapeOk [some IntKind.i64, some IntKind.i64] (tabOf z25 z26) z26)
   (.must (decide (dtow5 z23 ≤ dtow5 z23))
   (.must z19
   (.must (ShapeOk [some IntKind.i64, some IntKind.i64, some IntKind.i64, some IntKind.i64] (tabOf z20 z27) z27)
   (.must (decide (dosw0 z18 ≤ dosw0 z18))
   (.must (AF.fin z33)
   (.ask (Cm.run .neq z35 0)
   (.ask (Cm.run .neq z35 7)
   (.leaf (.done false []))
   (.ask (Cm.run .neq z37 0)
   (.leaf (.done false []))
   (.ask z38
   (.ask (Cm.run .eql z37 0)
   (.leaf (.done false []))
   (.leaf (.next (.n0 z20 z39 z36 z35 0 z28 z29 z30 z31 z32 z25 z20 z40 z41 z42 z43 z36 z44 z45 z25 z46 z47) [3, 4, 7, 6, 14, 5])))
   (.leaf (.next (.n0 z20 z39 z36 z35 0 z28 z29 z30 z31 z32 z25 z20 z40 z41 z42 z43 z36 z44 z45 z25 z46 z47) [3, 4, 7, 6, 14, 5])))))
   (.ask z38
   (.ask (Cm.run .eql z37 0)
   (.leaf (.done false []))
   (.leaf (.next (.n0 z20 z39 z36 z35 0 z28 z29 z30 z31 z32 z25 z20 z40 z41 z42 z43 z36 z44 z45 z25 z46 z47) [3, 4, 7, 6, 14, 5])))
   (.leaf (.next (.n0 z20 z39 z36 z35 0 z28 z29 z30 z31 z32 z25 z20 z40 z41 z42 z43 z36 z44 z45 z25 z46 z47) [3, 4, 7, 6, 14, 5])))))))))))))))))))))))))))))))

noncomputable def dlsD (a0 : Bool) (a1 a2 : Int) (a3 : Nat) (a4 a5 : Nat → Int) (a6 : Nat) (a7 a8 a9 a10 : Nat → Int) (a11 : Nat) (a12 : Nat → Int) (a13 a14 : Int) : dlsN → DD (Lf dlsN dlsR)
 | .n0 p0 p1 p2 p3 p4 p5 p6 p7 p8 p9 p10 p11 p12 p13 p14 p15 p16 p17 p18 p19 p20 p21 =>
 let z0 := Ar.run .add .i64 p4 1
 let z1 := decide (0 ≤ p4)
 let z2 := decide (0 + Int.toNat p4 < p16)
 let z3 := p17 (0 + Int.toNat p4)
 let z4 := Cm.run .lss z3 0
 let z5 := p17 (0 + Int.toNat z0)
 let z6 := Cm.run .eql p4 0
 let z7 := Cm.run .eql z3 0
 let z8 := decide (0 + a3 ≤ a3)
 let z9 := fun i => [CV.int IntKind.u8 (IE.x (a4 (0 + i))), CV.int IntKind.u8 (IE.x (a5 (0 + i)))]
 let z10 := ShapeOk [some IntKind.u8, some IntKind.u8] (tabOf a3 z9) z9
 let z11 := decide (0 + a6 ≤ a6)
 let z12 := fun i => [CV.int IntKind.u8 (IE.x (a7 (0 + i))), CV.int IntKind.u8 (IE.x (a8 (0 + i))), CV.int IntKind.u8 (IE.x (a9 (0 + i))), CV.int IntKind.u8 (IE.x (a10 (0 + i)))]
 let z13 := ShapeOk [some IntKind.u8, some IntKind.u8, some IntKind.u8, some IntKind.u8] (tabOf a6 z12) z12
 let z14 := decide (0 + a11 ≤ a11)
 let z15 := fun i => [CV.int IntKind.u8 (IE.x (a12 (0 + i)))]
 let z16 := ShapeOk [some IntKind.u8] (tabOf a11 z15) z15
 let z17 := decide (0 + p10 ≤ p19)
 let z18 := fun i => [CV.int IntKind.i64 (IE.x (p20 (0 + i))), CV.int IntKind.i64 (IE.x (p21 (0 + i)))]
 let z19 := ShapeOk [some IntKind.i64, some IntKind.i64] (tabOf p10 z18) z18
 let z20 := decide (0 + p0 ≤ p11)
 let z21 := fun i => [CV.int IntKind.i64 (IE.x (p12 (0 + i))), CV.int IntKind.i64 (IE.x (p13 (0 + i))), CV.int IntKind.i64 (IE.x (p14 (0 + i))), CV.int IntKind.i64 (IE.x (p15 (0 + i)))]
 let z22 := ShapeOk [some IntKind.i64, some IntKind.i64, some IntKind.i64, some IntKind.i64] (tabOf p0 z21) z21
 let z23 := fun i => a4 (0 + i)
 let z24 := fun i => a5 (0 + i)
 let z25 := fun i => a7 (0 + i)
 let z26 := fun i => a8 (0 + i)
 let z27 := fun i => a9 (0 + i)
 let z28 := fun i => a10 (0 + i)
 let z29 := fun i => a12 (0 + i)
 let z30 := fun i => p20 (0 + i)
 let z31 := fun i => p21 (0 + i)
 let z32 := fun i => p12 (0 + i)
 let z33 := fun i => p13 (0 + i)
 let z34 := fun i => p14 (0 + i)
 let z35 := fun i => p15 (0 + i)
 let z36 := p18 (0 + Int.toNat p4)
 let z37 := dcuA a0 a1 a2 a3 z23 z24 a6 z25 z26 z27 z28 a11 z29 p5 p6 p7 p8 p9 p10 z30 z31 p0 z32 z33 z34 z35 z3 z36 z5 0
 let z38 := AF.fin z37
 let z39 := AF.val z37
 let z40 := dcuA a0 a1 a2 a3 z23 z24 a6 z25 z26 z27 z28 a11 z29 p5 p6 p7 p8 p9 p10 z30 z31 p0 z32 z33 z34 z35 z3 z36 z5 1
 let z41 := AF.fin z40
 let z42 := AF.val z40
 let z43 := dcuA a0 a1 a2 a3 z23 z24 a6 z25 z26 z27 z28 a11 z29 p5 p6 p7 p8 p9 p10 z30 z31 p0 z32 z33 z34 z35 z3 z36 z5 2
 let z44 := AF.fin z43
 let z45 := !AF.val z43
 let z46 := fun i => p12 i
 let z47 := fun i => p13 i
 let z48 := fun i => p14 i
 let z49 := fun i => p15 i
 let z50 := fun i => p17 i
 let z51 := fun i => p18 i
 let z52 := fun i => p20 i
 let z53 := fun i => p21 i
 let z54 := dcuA a0 a1 a2 a3 z23 z24 a6 z25 z26 z27 z28 a11 z29 p5 p6 p7 p8 p9 p10 z30 z31 p0 z32 z33 z34 z35 z3 z36 p1 0
 let z55 := AF.fin z54
 let z56 := AF.val z54
 let z57 := dcuA a0 a1 a2 a3 z23 z24 a6 z25 z26 z27 z28 a11 z29 p5 p6 p7 p8 p9 p10 z30 z31 p0 z32 z33 z34 z35 z3 z36 p1 1
 let z58 := AF.fin z57
 let z59 := AF.val z57
 let z60 := dcuA a0 a1 a2 a3 z23 z24 a6 z25 z26 z27 z28 a11 z29 p5 p6 p7 p8 p9 p10 z30 z31 p0 z32 z33 z34 z35 z3 z36 p1 2
 let z61 := AF.fin z60
 let z62 := !AF.val z60
 let z63 := decide (p10 ≤ 10000)
 let z64 := decide (p0 ≤ 10000)
 let z65 := decide (0 + p10 ≤ p10)
 let z66 := fun i => [CV.int IntKind.i64 (IE.x (p20 (0 + (0 + i)))), CV.int IntKind.i64 (IE.x (p21 (0 + (0 + i))))]
 let z67 := ShapeOk [some IntKind.i64, some IntKind.i64] (tabOf p10 z66) z66
 let z68 := decide (p10 ≤ p10)
 let z69 := decide (0 + p0 ≤ p0)
 let z70 := fun i => [CV.int IntKind.i64 (IE.x (p12 (0 + (0 + i)))), CV.int IntKind.i64 (IE.x (p13 (0 + (0 + i)))), CV.int IntKind.i64 (IE.x (p14 (0 + (0 + i)))), CV.int IntKind.i64 (IE.x (p15 (0 + (0 + i))))]
 let z71 := ShapeOk [some IntKind.i64, some IntKind.i64, some IntKind.i64, some IntKind.i64] (tabOf p0 z70) z70
 let z72 := decide (p0 ≤ p0)
 let z73 := fun i => [CV.int IntKind.i64 (IE.x (p17 (0 + (0 + i)))), CV.int IntKind.i64 (IE.x (p18 (0 + (0 + i))))]
 let z74 := fun i => p20 (0 + (0 + i))
 let z75 := fun i => p21 (0 + (0 + i))
 let z76 := fun i => p12 (0 + (0 + i))
 let z77 := fun i => p13 (0 + (0 + i))
 let z78 := fun i => p14 (0 + (0 + i))
 let z79 := fun i => p15 (0 + (0 + i))
 let z80 := djuA p5 p6 p7 p8 p9 p10 z74 z75 p0 z76 z77 z78 z79 p2 (fun i => p17 (0 + (0 + i))) (fun i => p18 (0 + (0 + i)))
 let z81 := AF.val z80
 let z82 := Cm.run .neq p1 0
 let z83 := Ar.run .rem .i64 (Ar.run .conv .i64 a13 0) p1
 let z84 := Ar.run .sub .i64 p1 z83
 let z85 := Cm.run .neq z84 0
 let z86 := Ar.run .add .i64 (Ar.run .add .i64 z83 1) (Ar.run .rem .i64 (Ar.run .conv .i64 a14 0) z84)
 let z87 := dtaA p5 p6 p7 p8 p9 p10 z74 z75 p0 z76 z77 z78 z79 z83 z86
 let z88 := AF.fin z87
 let z89 := AF.val z87
 let z90 := Prod.snd z89
 let z91 := Prod.snd z90
 let z92 := Cm.run .eql z91 9
 let z93 := Prod.fst z89
 let z94 := Cm.run .eql z93 0
 let z95 := Prod.fst z90
 let z96 := Cm.run .eql z95 0
 let z97 := Cm.run .neq z91 0
 let z98 := Cm.run .gtr z93 z95
 let z99 := dcuA a0 a1 a2 a3 z23 z24 a6 z25 z26 z27 z28 a11 z29 p5 p6 p7 p8 p9 p10 z30 z31 p0 z32 z33 z34 z35 z83 z93 z86 0
 let z100 := AF.fin z99
 let z101 := AF.val z99
 let z102 := dcuA a0 a1 a2 a3 z23 z24 a6 z25 z26 z27 z28 a11 z29 p5 p6 p7 p8 p9 p10 z30 z31 p0 z32 z33 z34 z35 z83 z93 z86 1
 let z103 := AF.fin z102
 let z104 := AF.val z102
 let z105 := dcuA a0 a1 a2 a3 z23 z24 a6 z25 z26 z27 z28 a11 z29 p5 p6 p7 p8 p9 p10 z30 z31 p0 z32 z33 z34 z35 z83 z93 z86 2
 let z106 := AF.fin z105
 let z107 := !AF.val z105
 let z108 := dcuA a0 a1 a2 a3 z23 z24 a6 z25 z26 z27 z28 a11 z29 p5 p6 p7 p8 p9 p10 z30 z31 p0 z32 z33 z34 z35 z83 z95 z86 0
 let z109 := AF.fin z108
 let z110 := AF.val z108
 let z111 := dcuA a0 a1 a2 a3 z23 z24 a6 z25 z26 z27 z28 a11 z29 p5 p6 p7 p8 p9 p10 z30 z31 p0 z32 z33 z34 z35 z83 z95 z86 1
 let z112 := AF.fin z111
 let z113 := AF.val z111
 let z114 := dcuA a0 a1 a2 a3 z23 z24 a6 z25 z26 z27 z28 a11 z29 p5 p6 p7 p8 p9 p10 z30 z31 p0 z32 z33 z34 z35 z83 z95 z86 2
 let z115 := AF.fin z114
 let z116 := !AF.val z114
 let z117 := dcuA a0 a1 a2 a3 z23 z24 a6 z25 z26 z27 z28 a11 z29 p5 p6 p7 p8 p9 p10 z30 z31 p0 z32 z33 z34 z35 z83 (Ar.run .sub .i64 z93 1) z86 2
 let z118 := AF.fin z117
 let z119 := !AF.val z117
 let z120 := dcuA a0 a1 a2 a3 z23 z24 a6 z25 z26 z27 z28 a11 z29 p5 p6 p7 p8 p9 p10 z30 z31 p0 z32 z33 z34 z35 z83 (Ar.run .add .i64 z95 1) z86 1
 let z121 := AF.fin z120
 let z122 := !AF.val z120
 .ask (Cm.run .lss p4 (↑p2 : Int))
   (.ask (Cm.run .lss z0 (↑p2 : Int))
   (.must (decide (0 ≤ Ar.run .add .i64 p4 1))
   (.must (decide (Ar.run .add .i64 p4 1 < (↑p2 : Int)))
   (.must (decide (0 + Int.toNat z0 < p16))
   (.must z1
   (.must (decide (p4 < (↑p2 : Int)))
   (.must z2
   (.ask z4
   (.leaf (.done false []))
   (.must z1
   (.must (decide (p4 < (↑p2 : Int)))
   (.must z2
   (.ask (Cm.run .geq z3 z5)
   (.leaf (.done false []))
   (.ask z6
   (.must z1
   (.must (decide (p4 < (↑p2 : Int)))
   (.must z2
   (.ask z7
   (.must z1
   (.must (decide (p4 < (↑p2 : Int)))
   (.must z2
   (.must z8
   (.must z10
   (.must z11
   (.must z13
   (.must z14
   (.must z16
   (.must z17
   (.must z19
   (.must z20
   (.must z22
   (.must z38
   (.ask z39
   (.must z8
   (.must z10
   (.must z11
   (.must z13
   (.must z14
   (.must z16
   (.must z17
   (.must z19
   (.must z20
   (.must z22
   (.must z41
   (.ask z42
   (.must z8
   (.must z10
   (.must z11
   (.must z13
   (.must z14
   (.must z16
   (.must z17
   (.must z19
   (.must z20
   (.must z22
   (.must z44
   (.ask z45
   (.leaf (.done false []))
   (.leaf (.next (.n0 p0 p1 p2 p3 z0 p5 p6 p7 p8 p9 p10 p11 z46 z47 z48 z49 p16 z50 z51 p19 z52 z53) [3, 4, 5, 6, 7, 8]))))))))))))))
   (.leaf (.done false []))))))))))))))
   (.leaf (.done false [])))))))))))))))))
   (.leaf (.done false []))))))
   (.must z1
   (.must (decide (p4 < (↑p2 : Int)))
   (.must z2
   (.ask z7
   (.leaf (.done false []))
   (.must z1
   (.must (decide (p4 < (↑p2 : Int)))
   (.must z2
   (.must z8
   (.must z10
   (.must z11
   (.must z13
   (.must z14
   (.must z16
   (.must z17
   (.must z19
   (.must z20
   (.must z22
   (.must z38
   (.ask z39
   (.must z8
   (.must z10
   (.must z11
   (.must z13
   (.must z14
   (.must z16
   (.must z17
   (.must z19
   (.must z20
   (.must z22
   (.must z41
   (.ask z42
   (.must z8
   (.must z10
   (.must z11
   (.must z13
   (.must z14
   (.must z16
   (.must z17
   (.must z19
   (.must z20
   (.must z22
   (.must z44
   (.ask z45
   (.leaf (.done false []))
   (.leaf (.next (.n0 p0 p1 p2 p3 z0 p5 p6 p7 p8 p9 p10 p11 z46 z47 z48 z49 p16 z50 z51 p19 z52 z53) [3, 4, 5, 6, 7, 8]))))))))))))))
   (.leaf (.done false []))))))))))))))
   (.leaf (.done false [])))))))))))))))))))))))))))))))))
   (.must z1
   (.must (decide (p4 < (↑p2 : Int)))
   (.must z2
   (.ask z4
   (.leaf (.done false []))
   (.must z1
   (.must (decide (p4 < (↑p2 : Int)))
   (.must z2
   (.ask (Cm.run .geq z3 p1)
   (.leaf (.done false []))
   (.ask z6
   (.must z1
   (.must (decide (p4 < (↑p2 : Int)))
   (.must z2
   (.ask z7
   (.must z1
   (.must (decide (p4 < (↑p2 : Int)))
   (.must z2
   (.must z8
   (.must z10
   (.must z11
   (.must z13
   (.must z14
   (.must z16
   (.must z17
   (.must z19
   (.must z20
   (.must z22
   (.must z55
   (.ask z56
   (.must z8
   (.must z10
   (.must z11
   (.must z13
   (.must z14
   (.must z16
   (.must z17
   (.must z19
   (.must z20
   (.must z22
   (.must z58
   (.ask z59
   (.must z8
   (.must z10
   (.must z11
   (.must z13
   (.must z14
   (.must z16
   (.must z17
   (.must z19
   (.must z20
   (.must z22
   (.must z61
   (.ask z62
   (.leaf (.done false []))
   (.leaf (.next (.n0 p0 p1 p2 p3 z0 p5 p6 p7 p8 p9 p10 p11 z46 z47 z48 z49 p16 z50 z51 p19 z52 z53) [3, 4, 5, 6, 7, 8]))))))))))))))
   (.leaf (.done false []))))))))))))))
   (.leaf (.done false [])))))))))))))))))
   (.leaf (.done false []))))))
   (.must z1
   (.must (decide (p4 < (↑p2 : Int)))
   (.must z2
   (.ask z7
   (.leaf (.done false []))
   (.must z1
   (.must (decide (p4 < (↑p2 : Int)))
   (.must z2
   (.must z8
   (.must z10
   (.must z11
   (.must z13
   (.must z14
   (.must z16
   (.must z17
   (.must z19
   (.must z20
   (.must z22
   (.must z55
   (.ask z56
   (.must z8
   (.must z10
   (.must z11
   (.must z13
   (.must z14
   (.must z16
   (.must z17
   (.must z19
   (.must z20
   (.must z22
   (.must z58
   (.ask z59
   (.must z8
   (.must z10
   (.must z11
   (.must z13
   (.must z14
   (.must z16
   (.must z17
   (.must z19
   (.must z20
   (.must z22
   (.must z61
   (.ask z62
   (.leaf (.done false []))
   (.leaf (.next (.n0 p0 p1 p2 p3 z0 p5 p6 p7 p8 p9 p10 p11 z46 z47 z48 z49 p16 z50 z51 p19 z52 z53) [3, 4, 5, 6, 7, 8]))))))))))))))
   (.leaf (.done false []))))))))))))))
   (.leaf (.done false [])))))))))))))))))))))))))))))))
   (.ask (Cm.run .eql p3 0)
   (.must z17
   (.must z63
   (.must z20
   (.must z64
   (.must (decide (0 + p2 ≤ p16))
   (.must (decide (p2 ≤ 10000))
   (.must z65
   (.must z67
   (.must z68
   (.must z69
   (.must z71
   (.must z72
   (.must (decide (0 + p2 ≤ p2))
   (.must (ShapeOk [some IntKind.i64, some IntKind.i64] (tabOf p2 z73) z73)
   (.must (decide (p2 ≤ p2))
   (.must (AF.fin z80)
   (.ask (Cm.run .neq (Prod.snd z81) 0)
   (.leaf (.done false []))
   (.ask (Cm.run .neq (Prod.fst z81) p1)
   (.leaf (.done false []))
   (.must z82
   (.must z85
   (.must z17
   (.must z63
   (.must z20
   (.must z64
   (.must z65
   (.must z67
   (.must z68
   (.must z69
   (.must z71
   (.must z72
   (.must z88
   (.ask z92
   (.ask z94
   (.ask z96
   (.leaf (.done true []))
   (.leaf (.done false [])))
   (.leaf (.done false [])))
   (.ask z97
   (.leaf (.done false []))
   (.ask z98
   (.leaf (.done false []))
   (.must z8
   (.must z10
   (.must z11
   (.must z13
   (.must z14
   (.must z16
   (.must z17
   (.must z19
   (.must z20
   (.must z22
   (.must z100
   (.ask z101
   (.must z8
   (.must z10
   (.must z11
   (.must z13
   (.must z14
   (.must z16
   (.must z17
   (.must z19
   (.must z20
   (.must z22
   (.must z103
   (.ask z104
   (.must z8
   (.must z10
   (.must z11
   (.must z13
   (.must z14
   (.must z16
   (.must z17
   (.must z19
   (.must z20
   (.must z22
   (.must z106
   (.ask z107
   (.leaf (.done false []))
   (.must z8
   (.must z10
   (.must z11
   (.must z13
   (.must z14
   (.must z16
   (.must z17
   (.must z19
   (.must z20
   (.must z22
   (.must z109
   (.ask z110
   (.must z8
   (.must z10
   (.must z11
   (.must z13
   (.must z14
   (.must z16
   (.must z17
   (.must z19
   (.must z20
   (.must z22
   (.must z112
   (.ask z113
   (.must z8
   (.must z10
   (.must z11
   (.must z13
   (.must z14
   (.must z16
   (.must z17
   (.must z19
   (.must z20
   (.must z22
   (.must z115
   (.ask z116
   (.leaf (.done false []))
   (.must z8
   (.must z10
   (.must z11
   (.must z13
   (.must z14
   (.must z16
   (.must z17
   (.must z19
   (.must z20
   (.must z22
   (.must z118
   (.ask z119
   (.must z8
   (.must z10
   (.must z11
   (.must z13
   (.must z14
   (.must z16
   (.must z17
   (.must z19
   (.must z20
   (.must z22
   (.must z121
   (.ask z122
   (.leaf (.done true []))
   (.leaf (.done false []))))))))))))))
   (.leaf (.done false []))))))))))))))))))))))))))
   (.leaf (.done false []))))))))))))))
   (.leaf (.done false []))))))))))))))))))))))))))
   (.leaf (.done false []))))))))))))))
   (.leaf (.done false []))))))))))))))))))))))))))))))))))))))))))))))))
   (.must z82
   (.must z85
   (.must z17
   (.must z63
   (.must z20
   (.must z64
   (.must z65
   (.must z67
   (.must z68
   (.must z69
   (.must z71
   (.must z72
   (.must z88
   (.ask z92
   (.ask z94
   (.ask z96
   (.leaf (.done true []))
   (.leaf (.done false [])))
   (.leaf (.done false [])))
   (.ask z97
   (.leaf (.done false []))
   (.ask z98
   (.leaf (.done false []))
   (.must z8
   (.must z10
   (.must z11
   (.must z13
   (.must z14
   (.must z16
   (.must z17
   (.must z19
   (.must z20
   (.must z22
   (.must z100
   (.ask z101
   (.must z8
   (.must z10
   (.must z11
   (.must z13
   (.must z14
   (.must z16
   (.must z17
   (.must z19
   (.must z20
   (.must z22
   (.must z103
   (.ask z104
   (.must z8
   (.must z10
   (.must z11
   (.must z13
   (.must z14
   (.must z16
   (.must z17
   (.must z19
   (.must z20
   (.must z22
   (.must z106
   (.ask z107
   (.leaf (.done false []))
   (.must z8
   (.must z10
   (.must z11
   (.must z13
   (.must z14
   (.must z16
   (.must z17
   (.must z19
   (.must z20
   (.must z22
   (.must z109
   (.ask z110
   (.must z8
   (.must z10
   (.must z11
   (.must z13
   (.must z14
   (.must z16
   (.must z17
   (.must z19
   (.must z20
   (.must z22
   (.must z112
   (.ask z113
   (.must z8
   (.must z10
   (.must z11
   (.must z13
   (.must z14
   (.must z16
   (.must z17
   (.must z19
   (.must z20
   (.must z22
   (.must z115
   (.ask z116
   (.leaf (.done false []))
   (.must z8
   (.must z10
   (.must z11
   (.must z13
   (.must z14
   (.must z16
   (.must z17
   (.must z19
   (.must z20
   (.must z22
   (.must z118
   (.ask z119
   (.must z8
   (.must z10
   (.must z11
   (.must z13
   (.must z14
   (.must z16
   (.must z17
   (.must z19
   (.must z20
   (.must z22
   (.must z121
   (.ask z122
   (.leaf (.done true []))
   (.leaf (.done false []))))))))))))))
   (.leaf (.done false []))))))))))))))))))))))))))
   (.leaf (.done false []))))))))))))))
   (.leaf (.done false []))))))))))))))))))))))))))
   (.leaf (.done false []))))))))))))))
   (.leaf (.done false [])))))))))))))))))))))))))))))))

noncomputable def dlsA (a0 : Bool) (a1 a2 : Int) (a3 : Nat) (a4 a5 : Nat → Int) (a6 : Nat) (a7 a8 a9 a10 : Nat → Int) (a11 : Nat) (a12 : Nat → Int) (a13 a14 : Int) : AF dlsN dlsR where
  code := dlsCode
  base := 3
  nt := 224
  m := 400
  un := []
  W := []
  h0 := [(0, ⟨.arg a3 2 (fun i => [.int .u8 (.x (a4 i)), .int .u8 (.x (a5 i))]) (fun _ => ⟨rfl, rfl⟩), 2, true, none⟩), (1, ⟨.arg a6 4 (fun i => [.int .u8 (.x (a7 i)), .int .u8 (.x (a8 i)), .int .u8 (.x (a9 i)), .int .u8 (.x (a10 i))]) (fun _ => ⟨rfl, rfl⟩), 4, true, none⟩), (2, ⟨.arg a11 1 (fun i => [.int .u8 (.x (a12 i))]) (fun _ => ⟨rfl, rfl⟩), 1, true, none⟩)]
  args := [.agg [.bool (.x a0), .int .u8 (.x a1), .int .u8 (.x a2), .sla 0 2 0 a3, .sla 1 4 0 a6, .sla 2 1 0 a11], .agg [.int .u8 (.x a13), .int .u8 (.x a14)]]
  res := (Try.f8).results.toList
  path := fun a => match a with
   | .n0 p0 p1 p2 p3 p4 p5 p6 p7 p8 p9 p10 p11 p12 p13 p14 p15 p16 p17 p18 p19 p20 p21 => [1, 1, 1, 1, 1, 0, 1, 0]
  pd := fun a => match a with
   | .n0 p0 p1 p2 p3 p4 p5 p6 p7 p8 p9 p10 p11 p12 p13 p14 p15 p16 p17 p18 p19 p20 p21 => ⟨[(2, .ptr (some (3, 0))), (3, .ptr (some (4, 0))), (5, .ptr (some (5, 0))), (6, .sla 6 4 0 p0), (7, .int .i64 (.x p1)), (8, .sla 7 2 0 p2), (9, .int .i64 (.x p3)), (10, .int .i64 (.x p4))], [(3, ⟨.lit [.bool (.x a0), .int .u8 (.x a1), .int .u8 (.x a2), .sla 0 2 0 a3, .sla 1 4 0 a6, .sla 2 1 0 a11], 0, true, none⟩), (4, ⟨.lit [.int .u8 (.x a13), .int .u8 (.x a14)], 0, true, none⟩), (5, ⟨.lit [.bool (.x p5), .int .i64 (.x p6), .int .i64 (.x p7), .int .i64 (.x p8), .int .i64 (.x p9), .sla 8 2 0 p10], 0, true, none⟩), (6, ⟨.rows p11 4 (fun i => [.int .i64 (.x (p12 i)), .int .i64 (.x (p13 i)), .int .i64 (.x (p14 i)), .int .i64 (.x (p15 i))]) (fun _ => ⟨rfl, rfl⟩), 4, true, none⟩), (7, ⟨.rows p16 2 (fun i => [.int .i64 (.x (p17 i)), .int .i64 (.x (p18 i))]) (fun _ => ⟨rfl, rfl⟩), 2, true, none⟩), (8, ⟨.rows p19 2 (fun i => [.int .i64 (.x (p20 i)), .int .i64 (.x (p21 i))]) (fun _ => ⟨rfl, rfl⟩), 2, true, none⟩)], 9, []⟩
  D0 := dlsD0 a0 a1 a2 a3 a4 a5 a6 a7 a8 a9 a10 a11 a12 a13 a14
  D := dlsD a0 a1 a2 a3 a4 a5 a6 a7 a8 a9 a10 a11 a12 a13 a14
  rc := (fun v => .bool (.x v))
  rh := (fun v => [])
  rn := (fun v => 3)
  rx := (fun v => [])
  rgo := (fun _ => none)
theorem dlsstart (a0 : Bool) (a1 a2 : Int) (a3 : Nat) (a4 a5 : Nat → Int) (a6 : Nat) (a7 a8 a9 a10 : Nat → Int) (a11 : Nat) (a12 : Nat → Int) (a13 a14 : Int) : AF.edgeOk (dlsA a0 a1 a2 a3 a4 a5 a6 a7 a8 a9 a10 a11 a12 a13 a14) (ctxOf Try.prog memo0) (dlsD0 a0 a1 a2 a3 a4 a5 a6 a7 a8 a9 a10 a11 a12 a13 a14) (AF.run0 (dlsA a0 a1 a2 a3 a4 a5 a6 a7 a8 a9 a10 a11 a12 a13 a14) (ctxOf Try.prog (memoS 26 dplP dplF dplW dplH 3 (memoS 34 djuP djuF djuW djuH 3 (memoS 19 dtaP dtaF dtaW dtaH 2 (memoS 48 dtoP dtoF dtoW dtoH 4 (memoS 49 dosP dosF dosW dosH 4 (memoS 50 dalP dalF dalW dalH 1 (memoS 52 dcuP dcuF dcuW dcuH 5 (memoB [14])))))))))) := by unfold AF.edgeOk; kernel_rfl
theorem dlsnode0 (a0 : Bool) (a1 a2 : Int) (a3 : Nat) (a4 a5 : Nat → Int) (a6 : Nat) (a7 a8 a9 a10 : Nat → Int) (a11 : Nat) (a12 : Nat → Int) (a13 a14 : Int) (p0 : Nat) (p1 : Int) (p2 : Nat) (p3 p4 : Int) (p5 : Bool) (p6 p7 p8 p9 : Int) (p10 p11 : Nat) (p12 p13 p14 p15 : Nat → Int) (p16 : Nat) (p17 p18 : Nat → Int) (p19 : Nat) (p20 p21 : Nat → Int) : AF.edgeOk (dlsA a0 a1 a2 a3 a4 a5 a6 a7 a8 a9 a10 a11 a12 a13 a14) (ctxOf Try.prog memo0) (dlsD a0 a1 a2 a3 a4 a5 a6 a7 a8 a9 a10 a11 a12 a13 a14 (.n0 p0 p1 p2 p3 p4 p5 p6 p7 p8 p9 p10 p11 p12 p13 p14 p15 p16 p17 p18 p19 p20 p21)) (AF.runN (dlsA a0 a1 a2 a3 a4 a5 a6 a7 a8 a9 a10 a11 a12 a13 a14) (ctxOf Try.prog (memoS 26 dplP dplF dplW dplH 3 (memoS 34 djuP djuF djuW djuH 3 (memoS 19 dtaP dtaF dtaW dtaH 2 (memoS 48 dtoP dtoF dtoW dtoH 4 (memoS 49 dosP dosF dosW dosH 4 (memoS 50 dalP dalF dalW dalH 1 (memoS 52 dcuP dcuF dcuW dcuH 5 (memoB [14]))))))))) (.n0 p0 p1 p2 p3 p4 p5 p6 p7 p8 p9 p10 p11 p12 p13 p14 p15 p16 p17 p18 p19 p20 p21)) := by unfold AF.edgeOk; kernel_rfl
theorem dlsok (a0 : Bool) (a1 a2 : Int) (a3 : Nat) (a4 a5 : Nat → Int) (a6 : Nat) (a7 a8 a9 a10 : Nat → Int) (a11 : Nat) (a12 : Nat → Int) (a13 a14 : Int) : (dlsA a0 a1 a2 a3 a4 a5 a6 a7 a8 a9 a10 a11 a12 a13 a14).Ok Try.prog (ctxOf Try.prog (memoS 26 dplP dplF dplW dplH 3 (memoS 34 djuP djuF djuW djuH 3 (memoS 19 dtaP dtaF dtaW dtaH 2 (memoS 48 dtoP dtoF dtoW dtoH 4 (memoS 49 dosP dosF dosW dosH 4 (memoS 50 dalP dalF dalW dalH 1 (memoS 52 dcuP dcuF dcuW dcuH 5 (memoB [14]))))))))) where
  regs := by kernel_rfl
  h0 := by kernel_rfl
  start := dlsstart a0 a1 a2 a3 a4 a5 a6 a7 a8 a9 a10 a11 a12 a13 a14
  node := fun a _ => match a with
   | .n0 p0 p1 p2 p3 p4 p5 p6 p7 p8 p9 p10 p11 p12 p13 p14 p15 p16 p17 p18 p19 p20 p21 => dlsnode0 a0 a1 a2 a3 a4 a5 a6 a7 a8 a9 a10 a11 a12 a13 a14 p0 p1 p2 p3 p4 p5 p6 p7 p8 p9 p10 p11 p12 p13 p14 p15 p16 p17 p18 p19 p20 p21
  pd := fun a => match a with
   | .n0 p0 p1 p2 p3 p4 p5 p6 p7 p8 p9 p10 p11 p12 p13 p14 p15 p16 p17 p18 p19 p20 p21 => ⟨(fa_cons rfl (fa_cons rfl (fa_cons rfl (fa_cons rfl (fa_cons rfl (fa_cons rfl (fa_cons rfl (fa_cons rfl fa_nil)))))))), (fa_cons ⟨.inl (Nat.le_of_ble_eq_true rfl), rfl, rfl⟩ (fa_cons ⟨.inl (Nat.le_of_ble_eq_true rfl), rfl, rfl⟩ (fa_cons ⟨.inl (Nat.le_of_ble_eq_true rfl), rfl, rfl⟩ (fa_cons ⟨.inl (Nat.le_of_ble_eq_true rfl), (fun _ => rfl), rfl⟩ (fa_cons ⟨.inl (Nat.le_of_ble_eq_true rfl), (fun _ => rfl), rfl⟩ (fa_cons ⟨.inl (Nat.le_of_ble_eq_true rfl), (fun _ => rfl), rfl⟩ fa_nil)))))), fa_nil, rfl⟩
  le := fun a => match a with
   | .n0 p0 p1 p2 p3 p4 p5 p6 p7 p8 p9 p10 p11 p12 p13 p14 p15 p16 p17 p18 p19 p20 p21 => Nat.le_of_ble_eq_true rfl
  rd := fun v => ⟨⟨fa_nil, fa_nil, fa_nil, rfl⟩, rfl⟩
  wb := rfl
theorem dlshR {ρ : Env} (a0 : Bool) (a1 a2 : Int) (a3 : Nat) (a4 a5 : Nat → Int) (a6 : Nat) (a7 a8 a9 a10 : Nat → Int) (a11 : Nat) (a12 : Nat → Int) (a13 a14 : Int) (hM : MemoOk Try.prog (ctxOf Try.prog (memoS 26 dplP dplF dplW dplH 3 (memoS 34 djuP djuF djuW djuH 3 (memoS 19 dtaP dtaF dtaW dtaH 2 (memoS 48 dtoP dtoF dtoW dtoH 4 (memoS 49 dosP dosF dosW dosH 4 (memoS 50 dalP dalF dalW dalH 1 (memoS 52 dcuP dcuF dcuW dcuH 5 (memoB [14]))))))))) ρ) : ∀ X a q n D, FxOk ρ X → X.base = (dlsA a0 a1 a2 a3 a4 a5 a6 a7 a8 a9 a10 a11 a12 a13 a14).base → X.nt = (dlsA a0 a1 a2 a3 a4 a5 a6 a7 a8 a9 a10 a11 a12 a13 a14).nt → X.W = (dlsA a0 a1 a2 a3 a4 a5 a6 a7 a8 a9 a10 a11 a12 a13 a14).W → (dlsA a0 a1 a2 a3 a4 a5 a6 a7 a8 a9 a10 a11 a12 a13 a14).rgo a = some q → q n = some D → (dlsA a0 a1 a2 a3 a4 a5 a6 a7 a8 a9 a10 a11 a12 a13 a14).RangeOk Try.prog ρ X a D := AF.noRange rfl
theorem dlsctr {ρ : Env} (a0 : Bool) (a1 a2 : Int) (a3 : Nat) (a4 a5 : Nat → Int) (a6 : Nat) (a7 a8 a9 a10 : Nat → Int) (a11 : Nat) (a12 : Nat → Int) (a13 a14 : Int) {n : Nat} {v : dlsR} (hM : MemoOk Try.prog (ctxOf Try.prog (memoS 26 dplP dplF dplW dplH 3 (memoS 34 djuP djuF djuW djuH 3 (memoS 19 dtaP dtaF dtaW dtaH 2 (memoS 48 dtoP dtoF dtoW dtoH 4 (memoS 49 dosP dosF dosW dosH 4 (memoS 50 dalP dalF dalW dalH 1 (memoS 52 dcuP dcuF dcuW dcuH 5 (memoB [14]))))))))) ρ) (hv : (dlsA a0 a1 a2 a3 a4 a5 a6 a7 a8 a9 a10 a11 a12 a13 a14).run n = some v) :
    Ctr Try.prog ρ 8 (dlsA a0 a1 a2 a3 a4 a5 a6 a7 a8 a9 a10 a11 a12 a13 a14).args (dlsA a0 a1 a2 a3 a4 a5 a6 a7 a8 a9 a10 a11 a12 a13 a14).H0 (dlsA a0 a1 a2 a3 a4 a5 a6 a7 a8 a9 a10 a11 a12 a13 a14).base (dlsA a0 a1 a2 a3 a4 a5 a6 a7 a8 a9 a10 a11 a12 a13 a14).W ((dlsA a0 a1 a2 a3 a4 a5 a6 a7 a8 a9 a10 a11 a12 a13 a14).rc v) (putH (dlsA a0 a1 a2 a3 a4 a5 a6 a7 a8 a9 a10 a11 a12 a13 a14).H0 ((dlsA a0 a1 a2 a3 a4 a5 a6 a7 a8 a9 a10 a11 a12 a13 a14).rh v ++ (dlsA a0 a1 a2 a3 a4 a5 a6 a7 a8 a9 a10 a11 a12 a13 a14).rx v)) ((dlsA a0 a1 a2 a3 a4 a5 a6 a7 a8 a9 a10 a11 a12 a13 a14).rn v) :=
  AF.ctr try_ok hM (dlsok a0 a1 a2 a3 a4 a5 a6 a7 a8 a9 a10 a11 a12 a13 a14) (fn := Try.f8) Try.func8 rfl rfl (Nat.le_of_ble_eq_true rfl) rfl (dlshR a0 a1 a2 a3 a4 a5 a6 a7 a8 a9 a10 a11 a12 a13 a14 hM) hv
theorem dlsmem {ρ : Env} : MemoOk Try.prog (ctxOf Try.prog (memoS 26 dplP dplF dplW dplH 3 (memoS 34 djuP djuF djuW djuH 3 (memoS 19 dtaP dtaF dtaW dtaH 2 (memoS 48 dtoP dtoF dtoW dtoH 4 (memoS 49 dosP dosF dosW dosH 4 (memoS 50 dalP dalF dalW dalH 1 (memoS 52 dcuP dcuF dcuW dcuH 5 (memoB [14]))))))))) ρ := (memoS_ok (dplknown dplmem) (memoS_ok (djuknown djumem) (memoS_ok (dtaknown dtamem) (memoS_ok (dtoknown dtomem) (memoS_ok (dosknown dosmem) (memoS_ok (dalknown dalmem) (memoS_ok (dcuknown dcumem) (memoB_ok (fun f hf => by
    simp only [List.mem_cons, List.not_mem_nil, or_false] at hf
    subst hf
    exact CxKn07_known)))))))))
instance : Inhabited dlsR := ⟨false⟩
end Go.Proofs.Ythagjhadjpangaa.Cx

/- DieSure: the law's run. -/
namespace Go.Proofs.Ythagjhadjpangaa.Cx
set_option linter.unusedVariables false
set_option linter.unusedSimpArgs false
set_option maxRecDepth 100000
set_option maxHeartbeats 4000000
open Go Go.RowKit
def SurI : dlsN → Prop
  | .n0 p0 p1 p2 p3 p4 p5 p6 p7 p8 p9 p10 p11 p12 p13 p14 p15 p16 p17 p18 p19 p20 p21 =>
    (p11 = p0 ∧ p16 = p2 ∧ p19 = p10) ∧ (CkS p10 p0 (ToolOk p10 p20 p21 p6 p7 p8 p9) p12 p13 p14 p15 0 ∧ JobOk p6 p7 p8 p9 p10 p20 p21 p0 p12 p13 p14 p15 ∧ p1 = PS p12 p0 ∧ 0 < PS p12 p0 ∧ PS p12 p0 ≤ 150) ∧
    ((p3 = 7 ∧ p2 = 0) ∨ (p3 = 0 ∧ 0 < p2 ∧ Chn (PS p12 p0) (loJ p5 p6 p8 p20 p21 p0 p12 p13 p14) (hiJ p5 p7 p9 p20 p21 p0 p12 p13 p15) p2 (PS p12 p0) p17 p18)) ∧ 0 ≤ p4 ∧ p4 ≤ p2
theorem dls_sat (a0 : Bool) (a1 a2 : Int) (a3 : Nat) (a4 a5 : Nat → Int) (a6 : Nat) (a7 a8 a9 a10 : Nat → Int) (a11 : Nat) (a12 : Nat → Int) (a13 a14 : Int) (h1 : 0 ≤ a1 ∧ a1 ≤ 255) (h2 : 0 ≤ a2 ∧ a2 ≤ 255) (h4 : ∀ i, 0 ≤ a4 i ∧ a4 i ≤ 255) (h5 : ∀ i, 0 ≤ a5 i ∧ a5 i ≤ 255) (h7 : ∀ i, 0 ≤ a7 i ∧ a7 i ≤ 255) (h8 : ∀ i, 0 ≤ a8 i ∧ a8 i ≤ 255) (h9 : ∀ i, 0 ≤ a9 i ∧ a9 i ≤ 255) (h10 : ∀ i, 0 ≤ a10 i ∧ a10 i ≤ 255) : DD.sat SurI (fun v => v = true) (dlsD0 a0 a1 a2 a3 a4 a5 a6 a7 a8 a9 a10 a11 a12 a13 a14) := by
  obtain ⟨of, b, s1, s2, c1, c2, n, w1, w2, tv, tok, ook⟩ := dos_val (a0 := a0) (a3 := a3) (a6 := a6) (a11 := a11) (a12 := a12) h1 h2 h4 h5 h7 h8 h9 h10
  have tf := (dto_val (a0 := a0) (a3 := a3) (a6 := a6) (a7 := a7) (a8 := a8) (a9 := a9) (a10 := a10) (a11 := a11) (a12 := a12) h1 h2 h4 h5).1
  cases hO : AF.val (dosA a0 a1 a2 a3 a4 a5 a6 a7 a8 a9 a10 a11 a12) with
  | r0 => rw [hO] at ook; exact ook.elim
  | r1 m pc st zl zh =>
    rw [hO] at ook
    obtain ⟨hC, job, q1, q2⟩ := made_ok tok ook
    have tn := tok.2.2.2.2.1
    have om := ook.1
    have tvE : AF.val (dtoA a0 a1 a2 a3 (fun i => a4 i) (fun i => a5 i) a6 (fun i => a7 i) (fun i => a8 i) (fun i => a9 i) (fun i => a10 i) a11 (fun i => a12 i)) = _ := tv
    have ovE : AF.val (dosA a0 a1 a2 a3 (fun i => a4 i) (fun i => a5 i) a6 (fun i => a7 i) (fun i => a8 i) (fun i => a9 i) (fun i => a10 i) a11 (fun i => a12 i)) = _ := hO
    obtain ⟨af, av⟩ := dal_val (a0 := m) (a1 := pc) (a2 := st) (a3 := zl) (a4 := zh) job.few job.pc
    have avE : AF.val (dalA m (fun i => pc i) (fun i => st i) (fun i => zl i) (fun i => zh i)) = _ := av
    obtain ⟨pf, e, hC', pv⟩ := dpl_val (a0 := b) (a1 := s1) (a2 := s2) (a3 := c1) (a4 := c2) (a5 := n) (a6 := w1) (a7 := w2) (a8 := m) (a9 := pc) (a10 := st) (a11 := zl) (a12 := zh) (by omega) (by omega) (fun _ => by omega)
    obtain rfl := hC'.same hC
    replace pv := (pv.resolve_left (fun q => q.1 rfl)).2
    unfold dlsD0
    rcases pv with ⟨_, pv⟩ | ⟨k, F, G, c, pv⟩
    · have pvE : AF.val (dplA b s1 s2 c1 c2 n (fun i => w1 i) (fun i => w2 i) m (fun i => pc i) (fun i => st i) (fun i => zl i) (fun i => zh i)) = _ := pv
      have hI : SurI (.n0 m (PS pc m) 0 7 0 b s1 s2 c1 c2 n m pc st zl zh 0 (fun _ => 0) (fun _ => 0) n w1 w2) := ⟨⟨rfl, rfl, rfl⟩, ⟨hC, job, rfl, q1, q2⟩, .inl ⟨rfl, rfl⟩, Int.le_refl _, Int.le_refl _⟩
      simp only [DD.sat, Nat.zero_add, cmLss, cmLssF, cmLeq, cmLeqF, cmGtr, cmGtrF, cmGeq, cmGeqF, cmEql, cmEqlF, cmNeq, cmNeqF, decide_eq_true_eq, Bool.not_eq_true', Bool.not_eq_false', tvE, ovE, avE, pvE, dtow0, dtow1, dtow2, dtow3, dtow4, dtow5, dtow6, dtow7, dosw0, dosw1, dosw2, dosw3, dosw4, dplw0, dplw1, dplw2, dplw3]
      repeat' (first
      | exact Nat.le_refl _
      | exact shape_ok fun i _ => rfl
      | assumption
      | trivial
      | (intro hx; first | (exfalso; omega) | skip)
      | apply And.intro
      | omega)
    · have pvE : AF.val (dplA b s1 s2 c1 c2 n (fun i => w1 i) (fun i => w2 i) m (fun i => pc i) (fun i => st i) (fun i => zl i) (fun i => zh i)) = _ := pv
      have hk : 0 < k := by
        obtain ⟨E, e0, ek, _⟩ := c
        by_cases hk : k = 0
        · subst hk; omega
        · omega
      have hI : SurI (.n0 m (PS pc m) k 0 0 b s1 s2 c1 c2 n m pc st zl zh k F G n w1 w2) := ⟨⟨rfl, rfl, rfl⟩, ⟨hC, job, rfl, q1, q2⟩, .inr ⟨rfl, hk, c⟩, Int.le_refl _, by omega⟩
      simp only [DD.sat, Nat.zero_add, cmLss, cmLssF, cmLeq, cmLeqF, cmGtr, cmGtrF, cmGeq, cmGeqF, cmEql, cmEqlF, cmNeq, cmNeqF, decide_eq_true_eq, Bool.not_eq_true', Bool.not_eq_false', tvE, ovE, avE, pvE, dtow0, dtow1, dtow2, dtow3, dtow4, dtow5, dtow6, dtow7, dosw0, dosw1, dosw2, dosw3, dosw4, dplw0, dplw1, dplw2, dplw3]
      repeat' (first
      | exact Nat.le_refl _
      | exact shape_ok fun i _ => rfl
      | assumption
      | trivial
      | (intro hx; first | (exfalso; omega) | skip)
      | apply And.intro
      | omega)
section
variable {a0 : Bool} {a1 a2 : Int} {a3 : Nat} {a4 a5 : Nat → Int} {a6 : Nat} {a7 a8 a9 a10 : Nat → Int} {a11 : Nat} {a12 : Nat → Int} {b : Bool} {s1 s2 c1 c2 : Int} {n : Nat} {w1 w2 : Nat → Int} {m : Nat} {pc st zl zh : Nat → Int}
/-- Cuts with a target between the least and the greatest one. -/
theorem cut_sure (h : JobOk s1 s2 c1 c2 n w1 w2 m pc st zl zh) {f g t mo : Int} (h0 : 0 ≤ f) (h1 : f < t) (h2 : t ≤ PS pc m) (hl : (loJ b s1 c1 w1 w2 m pc st zl) f (t - f).toNat ≤ g) (hh : g ≤ (hiJ b s2 c2 w1 w2 m pc st zh) f (t - f).toNat) (h11 : a11 ≤ 9223372036854775807) (hb : ∀ i, 0 ≤ a12 i ∧ a12 i ≤ 255) : AF.fin (dcuA a0 a1 a2 a3 a4 a5 a6 a7 a8 a9 a10 a11 a12 b s1 s2 c1 c2 n w1 w2 m pc st zl zh f g t mo) = true ∧ AF.val (dcuA a0 a1 a2 a3 (fun i => a4 i) (fun i => a5 i) a6 (fun i => a7 i) (fun i => a8 i) (fun i => a9 i) (fun i => a10 i) a11 (fun i => a12 i) b s1 s2 c1 c2 n (fun i => w1 i) (fun i => w2 i) m (fun i => pc i) (fun i => st i) (fun i => zl i) (fun i => zh i) f g t mo) = true := by
  have d := h.lobd (b := b) (f := f) (k := (t - f).toNat) h0 (by omega) (by omega)
  obtain ⟨cf, cv⟩ := dcu_val (a0 := a0) (a1 := a1) (a2 := a2) (a3 := a3) (a4 := a4) (a5 := a5) (a6 := a6) (a7 := a7) (a8 := a8) (a9 := a9) (a10 := a10) (a11 := a11) (a12 := a12) (a13 := b) (a14 := s1) (a15 := s2) (a16 := c1) (a17 := c2) (a18 := n) (a19 := w1) (a20 := w2) (a21 := m) (a22 := pc) (a23 := st) (a24 := zl) (a25 := zh) (a26 := f) (a27 := g) (a28 := t) (a29 := mo) h h0 (Int.le_of_lt h1) h2 (by unfold BB; omega) h11 hb
  refine ⟨cf, cv.1 fun j hj => ?_⟩
  have c := can_in (b := b) (s1 := s1) (s2 := s2) (c1 := c1) (c2 := c2) (f := f) (j := j) (k := (t - f).toNat) (Int.le_trans hl hh) (by omega)
  omega
theorem cut_low (h : JobOk s1 s2 c1 c2 n w1 w2 m pc st zl zh) {f t : Int} (h0 : 0 ≤ f) (h1 : f < t) (h2 : t ≤ PS pc m) (h11 : a11 ≤ 9223372036854775807) (hb : ∀ i, 0 ≤ a12 i ∧ a12 i ≤ 255) : AF.fin (dcuA a0 a1 a2 a3 a4 a5 a6 a7 a8 a9 a10 a11 a12 b s1 s2 c1 c2 n w1 w2 m pc st zl zh f ((loJ b s1 c1 w1 w2 m pc st zl) f (t - f).toNat - 1) t 2) = true ∧ AF.val (dcuA a0 a1 a2 a3 (fun i => a4 i) (fun i => a5 i) a6 (fun i => a7 i) (fun i => a8 i) (fun i => a9 i) (fun i => a10 i) a11 (fun i => a12 i) b s1 s2 c1 c2 n (fun i => w1 i) (fun i => w2 i) m (fun i => pc i) (fun i => st i) (fun i => zl i) (fun i => zh i) f ((loJ b s1 c1 w1 w2 m pc st zl) f (t - f).toNat - 1) t 2) = false := by
  have d := h.lobd (b := b) (f := f) (k := (t - f).toNat) h0 (by omega) (by omega)
  obtain ⟨cf, cv⟩ := dcu_val (a0 := a0) (a1 := a1) (a2 := a2) (a3 := a3) (a4 := a4) (a5 := a5) (a6 := a6) (a7 := a7) (a8 := a8) (a9 := a9) (a10 := a10) (a11 := a11) (a12 := a12) (a13 := b) (a14 := s1) (a15 := s2) (a16 := c1) (a17 := c2) (a18 := n) (a19 := w1) (a20 := w2) (a21 := m) (a22 := pc) (a23 := st) (a24 := zl) (a25 := zh) (a26 := f) (a27 := (loJ b s1 c1 w1 w2 m pc st zl) f (t - f).toNat - 1) (a28 := t) (a29 := 2) h h0 (Int.le_of_lt h1) h2 (by unfold BB; omega) h11 hb
  refine ⟨cf, ?_⟩
  cases hx : AF.val (dcuA a0 a1 a2 a3 (fun i => a4 i) (fun i => a5 i) a6 (fun i => a7 i) (fun i => a8 i) (fun i => a9 i) (fun i => a10 i) a11 (fun i => a12 i) b s1 s2 c1 c2 n (fun i => w1 i) (fun i => w2 i) m (fun i => pc i) (fun i => st i) (fun i => zl i) (fun i => zh i) f ((loJ b s1 c1 w1 w2 m pc st zl) f (t - f).toNat - 1) t 2) with
  | false => rfl
  | true =>
    exfalso
    have a := cv.2.1 rfl hx
    rcases LoM_att (t := -1152921504606846976) (tl := tlP b s1 c1 w1 w2 st pc zl m f) (t - f).toNat with q | ⟨j, hj, q⟩
    · have q' : (loJ b s1 c1 w1 w2 m pc st zl) f (t - f).toNat = -1152921504606846976 := q
      omega
    · have := a j (by omega)
      have q' : (loJ b s1 c1 w1 w2 m pc st zl) f (t - f).toNat = tlP b s1 c1 w1 w2 st pc zl m f j := q
      omega
theorem cut_high (h : JobOk s1 s2 c1 c2 n w1 w2 m pc st zl zh) {f t : Int} (h0 : 0 ≤ f) (h1 : f < t) (h2 : t ≤ PS pc m) (h11 : a11 ≤ 9223372036854775807) (hb : ∀ i, 0 ≤ a12 i ∧ a12 i ≤ 255) : AF.fin (dcuA a0 a1 a2 a3 a4 a5 a6 a7 a8 a9 a10 a11 a12 b s1 s2 c1 c2 n w1 w2 m pc st zl zh f ((hiJ b s2 c2 w1 w2 m pc st zh) f (t - f).toNat + 1) t 1) = true ∧ AF.val (dcuA a0 a1 a2 a3 (fun i => a4 i) (fun i => a5 i) a6 (fun i => a7 i) (fun i => a8 i) (fun i => a9 i) (fun i => a10 i) a11 (fun i => a12 i) b s1 s2 c1 c2 n (fun i => w1 i) (fun i => w2 i) m (fun i => pc i) (fun i => st i) (fun i => zl i) (fun i => zh i) f ((hiJ b s2 c2 w1 w2 m pc st zh) f (t - f).toNat + 1) t 1) = false := by
  have d := h.lobd (b := b) (f := f) (k := (t - f).toNat) h0 (by omega) (by omega)
  obtain ⟨cf, cv⟩ := dcu_val (a0 := a0) (a1 := a1) (a2 := a2) (a3 := a3) (a4 := a4) (a5 := a5) (a6 := a6) (a7 := a7) (a8 := a8) (a9 := a9) (a10 := a10) (a11 := a11) (a12 := a12) (a13 := b) (a14 := s1) (a15 := s2) (a16 := c1) (a17 := c2) (a18 := n) (a19 := w1) (a20 := w2) (a21 := m) (a22 := pc) (a23 := st) (a24 := zl) (a25 := zh) (a26 := f) (a27 := (hiJ b s2 c2 w1 w2 m pc st zh) f (t - f).toNat + 1) (a28 := t) (a29 := 1) h h0 (Int.le_of_lt h1) h2 (by unfold BB; omega) h11 hb
  refine ⟨cf, ?_⟩
  cases hx : AF.val (dcuA a0 a1 a2 a3 (fun i => a4 i) (fun i => a5 i) a6 (fun i => a7 i) (fun i => a8 i) (fun i => a9 i) (fun i => a10 i) a11 (fun i => a12 i) b s1 s2 c1 c2 n (fun i => w1 i) (fun i => w2 i) m (fun i => pc i) (fun i => st i) (fun i => zl i) (fun i => zh i) f ((hiJ b s2 c2 w1 w2 m pc st zh) f (t - f).toNat + 1) t 1) with
  | false => rfl
  | true =>
    exfalso
    have a := cv.2.2 rfl hx
    rcases HiM_att (t := 1152921504606846976) (th := thP b s2 c2 w1 w2 st pc zh m f) (t - f).toNat with q | ⟨j, hj, q⟩
    · have q' : (hiJ b s2 c2 w1 w2 m pc st zh) f (t - f).toNat = 1152921504606846976 := q
      omega
    · have := a j (by omega)
      have q' : (hiJ b s2 c2 w1 w2 m pc st zh) f (t - f).toNat = thP b s2 c2 w1 w2 st pc zh m f j := q
      omega
end
theorem dls_end (a0 : Bool) (a1 a2 : Int) (a3 : Nat) (a4 a5 : Nat → Int) (a6 : Nat) (a7 a8 a9 a10 : Nat → Int) (a11 : Nat) (a12 : Nat → Int) (a13 a14 : Int) (h13 : 0 ≤ a13 ∧ a13 ≤ 255) (h14 : 0 ≤ a14 ∧ a14 ≤ 255) (h11 : a11 ≤ 9223372036854775807) (hb : ∀ i, 0 ≤ a12 i ∧ a12 i ≤ 255) {k : Nat} {e q : Int} {b : Bool} {s1 s2 c1 c2 : Int} {n : Nat} {w1 w2 : Nat → Int} {m : Nat} {pc st zl zh : Nat → Int} {F G : Nat → Int}
    (hC : CkS n m (ToolOk n w1 w2 s1 s2 c1 c2) pc st zl zh 0) (job : JobOk s1 s2 c1 c2 n w1 w2 m pc st zl zh) (q1 : 0 < PS pc m) (q2 : PS pc m ≤ 150) (hp : (e = 7 ∧ k = 0) ∨ (e = 0 ∧ 0 < k ∧ Chn (PS pc m) (loJ b s1 c1 w1 w2 m pc st zl) (hiJ b s2 c2 w1 w2 m pc st zh) k (PS pc m) F G)) (hq : k ≤ q) : DD.sat (fun b => SurI b ∧ False) (fun v => v = true) (dlsD a0 a1 a2 a3 a4 a5 a6 a7 a8 a9 a10 a11 a12 a13 a14 (.n0 m (PS pc m) k e q b s1 s2 c1 c2 n m pc st zl zh k F G n w1 w2)) := by
  have hn := hC.ok
  have r1 := rem_pos (x := a13) (k := PS pc m) h13.1 q1
  obtain ⟨f, hf⟩ : ∃ f, Ar.run .rem .i64 a13 (PS pc m) = f := ⟨_, rfl⟩
  rw [hf] at r1
  have es : Ar.run .sub .i64 (PS pc m) f = PS pc m - f := arSub (by omega)
  have r2 := rem_pos (x := a14) (k := PS pc m - f) h14.1 (by omega)
  obtain ⟨g, hg⟩ : ∃ g, Ar.run .rem .i64 a14 (PS pc m - f) = g := ⟨_, rfl⟩
  rw [hg] at r2
  have e1 : Ar.run .add .i64 f 1 = f + 1 := arAdd (by omega)
  have e2 : Ar.run .add .i64 (f + 1) g = f + 1 + g := arAdd (by omega)
  have k1 := conv_byte h13
  have k2 := conv_byte h14
  obtain ⟨t, ht⟩ : ∃ t, f + 1 + g = t := ⟨_, rfl⟩
  have ft : f < t := by omega
  have tp : t ≤ PS pc m := by omega
  obtain ⟨tf, e', hC', tv⟩ := dta_val (a0 := b) (a1 := s1) (a2 := s2) (a3 := c1) (a4 := c2) (a5 := n) (a6 := w1) (a7 := w2) (a8 := m) (a9 := pc) (a10 := st) (a11 := zl) (a12 := zh) (a13 := f) (a14 := t) (by omega) (by omega)
  obtain rfl := hC'.same hC
  replace tv := (tv.resolve_left (fun q => q.1 rfl)).2
  replace tv := (tv.resolve_left (fun q => q.1 ⟨r1.1, ft, tp⟩)).2
  have el := job.lo (a0 := b) (a13 := f) r1.1 (by omega) ((t - f).toNat - 1)
  have eh := job.hi (a0 := b) (a13 := f) r1.1 (by omega) ((t - f).toNat - 1)
  rw [show (t - f).toNat - 1 + 1 = (t - f).toNat by omega] at el eh
  rw [el, eh] at tv
  have lE : LoM (-1152921504606846976) (tlP b s1 c1 w1 w2 st pc zl m f) (t - f).toNat = (loJ b s1 c1 w1 w2 m pc st zl) f (t - f).toNat := rfl
  have hE : HiM 1152921504606846976 (thP b s2 c2 w1 w2 st pc zh m f) (t - f).toNat = (hiJ b s2 c2 w1 w2 m pc st zh) f (t - f).toNat := rfl
  rw [lE, hE] at tv
  clear el eh lE hE
  have d := job.lobd (b := b) (f := f) (k := (t - f).toNat) r1.1 (by omega) (by omega)
  have jd : e = 0 → AF.fin (djuA b s1 s2 c1 c2 n w1 w2 m pc st zl zh k F G) = true ∧ AF.val (djuA b s1 s2 c1 c2 n (fun i => w1 i) (fun i => w2 i) m (fun i => pc i) (fun i => st i) (fun i => zl i) (fun i => zh i) k (fun i => F i) (fun i => G i)) = (PS pc m, 0) := fun he => by
    rcases hp with ⟨hx, _⟩ | ⟨_, _, c⟩
    · omega
    have hk : k ≤ 150 := by have := c.len; omega
    obtain ⟨jf, e', hC', jv⟩ := dju_val (a0 := b) (a1 := s1) (a2 := s2) (a3 := c1) (a4 := c2) (a5 := n) (a6 := w1) (a7 := w2) (a8 := m) (a9 := pc) (a10 := st) (a11 := zl) (a12 := zh) (a13 := k) (a14 := F) (a15 := G) (by omega) (by omega) (by omega)
    obtain rfl := hC'.same hC
    replace jv := (jv.resolve_left (fun q => q.1 rfl)).2
    replace jv := (jv.resolve_left (fun q => by omega)).2
    replace jv := (jv.resolve_left (fun q => q.1 (chn_set job c))).2
    obtain ⟨r, hr, jv⟩ := jv
    refine ⟨jf, ?_⟩
    have := hr.same ⟨by omega, Int.le_refl _, chn_sure job c, fun hx => by omega⟩
    rw [this] at jv
    exact jv
  have hkk : k ≤ 150 := by
    rcases hp with ⟨_, hx⟩ | ⟨_, _, c⟩
    · omega
    · have := c.len; omega
  rcases tv with ⟨hl, tv⟩ | ⟨hl, tv⟩
  · have tvE : AF.val (dtaA b s1 s2 c1 c2 n (fun i => w1 i) (fun i => w2 i) m (fun i => pc i) (fun i => st i) (fun i => zl i) (fun i => zh i) f t) = _ := tv
    unfold dlsD
    rcases hp with ⟨rfl, rfl⟩ | ⟨rfl, hk, c⟩
    · simp only [DD.sat, Nat.zero_add, cmLss, cmLssF, cmLeq, cmLeqF, cmGtr, cmGtrF, cmGeq, cmGeqF, cmEql, cmEqlF, cmNeq, cmNeqF, decide_eq_true_eq, Bool.not_eq_true', Bool.not_eq_false', k1, k2, hf, es, hg, e1, e2, ht, tvE]
      repeat' (first
      | exact Nat.le_refl _
      | exact shape_ok fun i _ => rfl
      | assumption
      | trivial
      | (intro hx; first | (exfalso; omega) | skip)
      | apply And.intro
      | omega)
    · obtain ⟨jf, jv⟩ := jd rfl
      simp only [DD.sat, Nat.zero_add, cmLss, cmLssF, cmLeq, cmLeqF, cmGtr, cmGtrF, cmGeq, cmGeqF, cmEql, cmEqlF, cmNeq, cmNeqF, decide_eq_true_eq, Bool.not_eq_true', Bool.not_eq_false', k1, k2, hf, es, hg, e1, e2, ht, tvE, jv]
      repeat' (first
      | exact Nat.le_refl _
      | exact shape_ok fun i _ => rfl
      | assumption
      | trivial
      | (intro hx; first | (exfalso; omega) | skip)
      | apply And.intro
      | omega)
  · have tvE : AF.val (dtaA b s1 s2 c1 c2 n (fun i => w1 i) (fun i => w2 i) m (fun i => pc i) (fun i => st i) (fun i => zl i) (fun i => zh i) f t) = _ := tv
    have A := fun mo => cut_sure (a0 := a0) (a1 := a1) (a2 := a2) (a3 := a3) (a4 := a4) (a5 := a5) (a6 := a6) (a7 := a7) (a8 := a8) (a9 := a9) (a10 := a10) (a11 := a11) (a12 := a12) (mo := mo) job r1.1 ft tp (Int.le_refl _) hl h11 hb
    have B := fun mo => cut_sure (a0 := a0) (a1 := a1) (a2 := a2) (a3 := a3) (a4 := a4) (a5 := a5) (a6 := a6) (a7 := a7) (a8 := a8) (a9 := a9) (a10 := a10) (a11 := a11) (a12 := a12) (mo := mo) job r1.1 ft tp hl (Int.le_refl _) h11 hb
    obtain ⟨cf, cv⟩ := cut_low (a0 := a0) (a1 := a1) (a2 := a2) (a3 := a3) (a4 := a4) (a5 := a5) (a6 := a6) (a7 := a7) (a8 := a8) (a9 := a9) (a10 := a10) (a11 := a11) (a12 := a12) (b := b) job r1.1 ft tp h11 hb
    obtain ⟨df, dv⟩ := cut_high (a0 := a0) (a1 := a1) (a2 := a2) (a3 := a3) (a4 := a4) (a5 := a5) (a6 := a6) (a7 := a7) (a8 := a8) (a9 := a9) (a10 := a10) (a11 := a11) (a12 := a12) (b := b) job r1.1 ft tp h11 hb
    generalize (loJ b s1 c1 w1 w2 m pc st zl) f (t - f).toNat = L at *
    generalize (hiJ b s2 c2 w1 w2 m pc st zh) f (t - f).toNat = H at *
    have e3 : Ar.run .sub .i64 L 1 = L - 1 := arSub (by omega)
    have e4 : Ar.run .add .i64 H 1 = H + 1 := arAdd (by omega)
    obtain ⟨f1, v1⟩ := A 0
    obtain ⟨f2, v2⟩ := A 1
    obtain ⟨f3, v3⟩ := A 2
    obtain ⟨f4, v4⟩ := B 0
    obtain ⟨f5, v5⟩ := B 1
    obtain ⟨f6, v6⟩ := B 2
    clear A B
    unfold dlsD
    rcases hp with ⟨rfl, rfl⟩ | ⟨rfl, hk, c⟩
    · simp only [DD.sat, Nat.zero_add, cmLss, cmLssF, cmLeq, cmLeqF, cmGtr, cmGtrF, cmGeq, cmGeqF, cmEql, cmEqlF, cmNeq, cmNeqF, decide_eq_true_eq, Bool.not_eq_true', Bool.not_eq_false', k1, k2, hf, es, hg, e1, e2, e3, e4, ht, tvE, v1, v2, v3, v4, v5, v6, cv, dv]
      repeat' (first
      | exact Nat.le_refl _
      | exact shape_ok fun i _ => rfl
      | assumption
      | trivial
      | (intro hx; first | (exfalso; omega) | skip)
      | apply And.intro
      | omega)
    · obtain ⟨jf, jv⟩ := jd rfl
      simp only [DD.sat, Nat.zero_add, cmLss, cmLssF, cmLeq, cmLeqF, cmGtr, cmGtrF, cmGeq, cmGeqF, cmEql, cmEqlF, cmNeq, cmNeqF, decide_eq_true_eq, Bool.not_eq_true', Bool.not_eq_false', k1, k2, hf, es, hg, e1, e2, e3, e4, ht, tvE, jv, v1, v2, v3, v4, v5, v6, cv, dv]
      repeat' (first
      | exact Nat.le_refl _
      | exact shape_ok fun i _ => rfl
      | assumption
      | trivial
      | (intro hx; first | (exfalso; omega) | skip)
      | apply And.intro
      | omega)
theorem dls_step (a0 : Bool) (a1 a2 : Int) (a3 : Nat) (a4 a5 : Nat → Int) (a6 : Nat) (a7 a8 a9 a10 : Nat → Int) (a11 : Nat) (a12 : Nat → Int) (a13 a14 : Int) (h11 : a11 ≤ 9223372036854775807) (hb : ∀ i, 0 ≤ a12 i ∧ a12 i ≤ 255) {k : Nat} {e q : Int} {b : Bool} {s1 s2 c1 c2 : Int} {n : Nat} {w1 w2 : Nat → Int} {m : Nat} {pc st zl zh : Nat → Int} {F G : Nat → Int}
    (hC : CkS n m (ToolOk n w1 w2 s1 s2 c1 c2) pc st zl zh 0) (job : JobOk s1 s2 c1 c2 n w1 w2 m pc st zl zh) (q1 : 0 < PS pc m) (q2 : PS pc m ≤ 150) (hp : (e = 7 ∧ k = 0) ∨ (e = 0 ∧ 0 < k ∧ Chn (PS pc m) (loJ b s1 c1 w1 w2 m pc st zl) (hiJ b s2 c2 w1 w2 m pc st zh) k (PS pc m) F G)) (g0 : 0 ≤ q) (hq : q < k) : DD.sat (fun b' => SurI b' ∧ b' = .n0 m (PS pc m) k e (q + 1) b s1 s2 c1 c2 n m pc st zl zh k F G n w1 w2) (fun v => v = true) (dlsD a0 a1 a2 a3 a4 a5 a6 a7 a8 a9 a10 a11 a12 a13 a14 (.n0 m (PS pc m) k e q b s1 s2 c1 c2 n m pc st zl zh k F G n w1 w2)) := by
  have hI : SurI (.n0 m (PS pc m) k e (q + 1) b s1 s2 c1 c2 n m pc st zl zh k F G n w1 w2) := ⟨⟨rfl, rfl, rfl⟩, ⟨hC, job, rfl, q1, q2⟩, hp, by omega, by omega⟩
  have hI2 := Eq.refl (dlsN.n0 m (PS pc m) k e (q + 1) b s1 s2 c1 c2 n m pc st zl zh k F G n w1 w2)
  rcases hp with ⟨_, hx⟩ | ⟨he, _, c⟩
  · omega
  have cl := c.len
  obtain ⟨E, e0, ek, stp, nn⟩ := c.at'
  obtain ⟨a1', a2', a3', a4', a5'⟩ := stp q.toNat (by omega)
  have nz := nn q.toNat (by omega)
  have ea : Ar.run .add .i64 q 1 = q + 1 := arAdd (by omega)
  have en : (q + 1).toNat = q.toNat + 1 := by omega
  have pos : q ≠ 0 → E q.toNat ≠ 0 := fun h => by
    have a := (stp (q.toNat - 1) (by omega)).2.1
    rw [show q.toNat - 1 + 1 = q.toNat by omega] at a
    have b := nn (q.toNat - 1) (by omega)
    omega
  have zer : q = 0 → E q.toNat = 0 := fun h => by rw [h]; exact e0
  have cut := fun mo => cut_sure (a0 := a0) (a1 := a1) (a2 := a2) (a3 := a3) (a4 := a4) (a5 := a5) (a6 := a6) (a7 := a7) (a8 := a8) (a9 := a9) (a10 := a10) (a11 := a11) (a12 := a12) (mo := mo) (f := E q.toNat) (g := G q.toNat) (t := E (q.toNat + 1)) job nz a2' a3' (by rw [a5']; exact Int.le_refl _) (by rw [a5']; exact a4') h11 hb
  obtain ⟨f0, v0⟩ := cut 0
  obtain ⟨f1, v1⟩ := cut 1
  obtain ⟨f2, v2⟩ := cut 2
  clear cut
  unfold dlsD
  by_cases hq2 : q + 1 < k
  · have a6 : F (q.toNat + 1) = E (q.toNat + 1) := (stp (q.toNat + 1) (by omega)).1
    simp only [DD.sat, Nat.zero_add, cmLss, cmLssF, cmLeq, cmLeqF, cmGtr, cmGtrF, cmGeq, cmGeqF, cmEql, cmEqlF, cmNeq, cmNeqF, decide_eq_true_eq, Bool.not_eq_true', Bool.not_eq_false', ea, en, a1', a6, v0, v1, v2]
    repeat' (first
      | exact Nat.le_refl _
      | exact shape_ok fun i _ => rfl
      | assumption
      | trivial
      | (intro hx; first | (exfalso; omega) | skip)
      | apply And.intro
      | omega)
  · have a6 : E (q.toNat + 1) = PS pc m := by rw [show q.toNat + 1 = k by omega]; exact ek
    rw [a6] at a2' a3' f0 f1 f2 v0 v1 v2
    simp only [DD.sat, Nat.zero_add, cmLss, cmLssF, cmLeq, cmLeqF, cmGtr, cmGtrF, cmGeq, cmGeqF, cmEql, cmEqlF, cmNeq, cmNeqF, decide_eq_true_eq, Bool.not_eq_true', Bool.not_eq_false', ea, en, a1', v0, v1, v2]
    repeat' (first
      | exact Nat.le_refl _
      | exact shape_ok fun i _ => rfl
      | assumption
      | trivial
      | (intro hx; first | (exfalso; omega) | skip)
      | apply And.intro
      | omega)
theorem dls_run (a0 : Bool) (a1 a2 : Int) (a3 : Nat) (a4 a5 : Nat → Int) (a6 : Nat) (a7 a8 a9 a10 : Nat → Int) (a11 : Nat) (a12 : Nat → Int) (a13 a14 : Int) (h1 : 0 ≤ a1 ∧ a1 ≤ 255) (h2 : 0 ≤ a2 ∧ a2 ≤ 255) (_ : a3 ≤ 9223372036854775807) (h4 : ∀ i, 0 ≤ a4 i ∧ a4 i ≤ 255) (h5 : ∀ i, 0 ≤ a5 i ∧ a5 i ≤ 255) (_ : a6 ≤ 9223372036854775807) (h7 : ∀ i, 0 ≤ a7 i ∧ a7 i ≤ 255) (h8 : ∀ i, 0 ≤ a8 i ∧ a8 i ≤ 255) (h9 : ∀ i, 0 ≤ a9 i ∧ a9 i ≤ 255) (h10 : ∀ i, 0 ≤ a10 i ∧ a10 i ≤ 255) (h11 : a11 ≤ 9223372036854775807) (h12 : ∀ i, 0 ≤ a12 i ∧ a12 i ≤ 255) (h13 : 0 ≤ a13 ∧ a13 ≤ 255) (h14 : 0 ≤ a14 ∧ a14 ≤ 255) :
    ∃ n v, AF.run (dlsA a0 a1 a2 a3 a4 a5 a6 a7 a8 a9 a10 a11 a12 a13 a14) n = some v ∧ v = true := by
  refine AF.run_sat (E := fun v => v = true) (Inv := SurI) (fun b => match b with | .n0 p0 p1 p2 p3 p4 p5 p6 p7 p8 p9 p10 p11 p12 p13 p14 p15 p16 p17 p18 p19 p20 p21 => (p2 - p4).toNat) (fun b => rfl) (fun b h => ?_) (dls_sat a0 a1 a2 a3 a4 a5 a6 a7 a8 a9 a10 a11 a12 a13 a14 h1 h2 h4 h5 h7 h8 h9 h10)
  cases b with
  | n0 p0 p1 p2 p3 p4 p5 p6 p7 p8 p9 p10 p11 p12 p13 p14 p15 p16 p17 p18 p19 p20 p21 =>
    obtain ⟨⟨e1, e2, e3⟩, ⟨hC, job, e4, q1, q2⟩, hp, g0, g1⟩ := h
    subst e1 e2 e3 e4
    show DD.sat _ _ (dlsD a0 a1 a2 a3 a4 a5 a6 a7 a8 a9 a10 a11 a12 a13 a14 (.n0 p11 (PS p12 p11) p16 p3 p4 p5 p6 p7 p8 p9 p19 p11 p12 p13 p14 p15 p16 p17 p18 p19 p20 p21))
    by_cases hq : p4 < p16
    · refine DD.sat_mono ?_ (fun v hv => hv) _ (dls_step a0 a1 a2 a3 a4 a5 a6 a7 a8 a9 a10 a11 a12 a13 a14 h11 h12 hC job q1 q2 hp g0 hq)
      rintro b' ⟨hI, rfl⟩
      refine ⟨hI, ?_⟩
      show ((p16 : Int) - (p4 + 1)).toNat < ((p16 : Int) - p4).toNat
      omega
    · exact DD.sat_mono (fun b hb => hb.2.elim) (fun v hv => hv) _ (dls_end a0 a1 a2 a3 a4 a5 a6 a7 a8 a9 a10 a11 a12 a13 a14 h13 h14 h11 h12 hC job q1 q2 hp (by omega))
end Go.Proofs.Ythagjhadjpangaa.Cx

/- ARGUMENTS THAT ARE SLICES: opened as lists; the memory in which they lie as blocks that are read alone; a law's contract as its statement's walk. -/
namespace Go.Proofs.Ythagjhadjpangaa.Cx
set_option linter.unusedSimpArgs false
set_option linter.unusedVariables false
open Go Go.RowKit Go.ChangeShapes Go.WideShapes Go.Deep Go.Proofs.Ythagjhadjpangaa
/-! ## Such slices as blocks -/
section
variable {P : Program} {ρ : Env}
/-- Where a slice's rows lie. -/
noncomputable def locOf (w : World) (v : Value) (z : Nat) : Option Loc :=
  match v with
  | .slice (some a) (_ + 1) _ => match w.heap[a.block]? with
    | some (.cells c _ _) => some ⟨a.block, a.off, c.size, z⟩
    | _ => none
  | _ => none
theorem rows_rel {α : Type} {en : α → List Value} {ec : α → List CV} {d : α} (he : ∀ σ x, VRl ρ σ (ec x) (en x)) (σ : Mp) : ∀ (xs : List α) (n : Nat), n ≤ xs.length → VRl ρ σ (flatR (fun j => ec (xs.getD j d)) n) ((xs.take n).flatMap en)
  | xs, 0, _ => by simpa [flatR] using VRl.nil
  | xs, n + 1, h => by
    have ih := rows_rel (d := d) he σ xs n (by omega)
    rw [flatR, List.take_add_one, List.flatMap_append]
    refine ih.append ?_
    have hn : n < xs.length := by omega
    rw [List.getElem?_eq_getElem hn, List.getD_eq_getElem?_getD, List.getElem?_eq_getElem hn]
    simpa using he σ xs[n]
theorem SlR.rel {α : Type} {en : α → List Value} {ec : α → List CV} {d : α} {z : Nat} {w : World} {v : Value} {xs : List α} {σ : Mp} {b : Nat} (h : SlR en z w v xs) (hz : ∀ x, (en x).length = z) (he : ∀ σ x, VRl ρ σ (ec x) (en x))
    (hk : ∀ j, (ec (xs.getD j d)).length = z ∧ (ec (xs.getD j d)).all CV.flat = true) (hσ : σ b = locOf w v z) :
    VR ρ σ (.sla b z 0 xs.length) v ∧ ArgAt ρ w ⟨.arg xs.length z (fun j => ec (xs.getD j d)) hk, z, true, none⟩ (σ b) := by
  obtain ⟨a, cap, rfl, hcap, _, hx⟩ := h
  have hcl : Blk.cells ⟨.arg xs.length z (fun j => ec (xs.getD j d)) hk, z, true, none⟩ = flatR (fun j => ec (xs.getD j d)) xs.length := rfl
  have hlen := flatR_length (fun j => (hk j).1) xs.length
  rcases hx with rfl | ⟨bl, off, c, t, p, rfl, hh, hsz, hrow⟩
  · refine ⟨.sla0 _ _, rfl, rfl, rfl, fun l hl => ?_⟩
    rw [hσ] at hl
    simp [locOf] at hl
  · cases xs with
    | nil =>
      refine ⟨.sla0 _ _, rfl, rfl, rfl, fun l hl => ?_⟩
      rw [hσ] at hl
      simp [locOf] at hl
    | cons x xs =>
      have hlo : locOf w (.slice (some ⟨bl, off, none⟩) (x :: xs).length cap) z = some ⟨bl, off, c.size, z⟩ := by
        simp [locOf, hh]
      rw [hlo] at hσ
      refine ⟨?_, rfl, rfl, rfl, fun l hl => ?_⟩
      · have := VR.sla (ρ := ρ) (σ := σ) (b := b) (z := z) (o := 0) (n := (x :: xs).length) (c' := cap) hσ hcap
        simpa using this
      · rw [hσ] at hl
        obtain rfl := Option.some.inj hl
        refine ⟨c, t, p, hh, rfl, rfl, by rw [hcl, hlen]; exact hsz, fun τ => ?_⟩
        rw [hcl, hlen, hrow]
        have := rows_rel (ρ := ρ) (d := d) he τ (x :: xs) (x :: xs).length (Nat.le_refl _)
        rwa [List.take_of_length_le (Nat.le_refl _)] at this
/-- A law's contract, as its statement's walk. -/
theorem Ctr.law {f : Nat} {args : List CV} {h0 h1 : Tr Blk} {base n1 : Nat} {e : BE} {w : World} {σ : Mp} {args' : Array Value} (K : Ctr P ρ f args h0 base [] (.bool e) h1 n1) (he : e.den ρ = true) (ha : VRl ρ σ args args'.toList) (hH : HR ρ σ (curOf h0 base) w) (hN : ∀ b, base ≤ b → σ b = none) :
    Calls P f args' w fun e w' => e = .returned (.bool true) ∧ Below w.heap.size w w' := by
  refine ((K.run 0 σ w args' ha hH hN).calls (fun k d h => by cases h)).mono ?_
  rintro e' w' ⟨v, rfl, σ', h1, h2, h3, h4, h5⟩
  cases h2
  refine ⟨by rw [he], h4.os, h4.tape, h4.output, h4.size, fun k hk => h4.block k hk (fun b hb l hl => ?_)⟩
  rcases hb with hb | hb
  · cases hb
  · rw [hN b hb] at hl; cases hl
end
end Go.Proofs.Ythagjhadjpangaa.Cx
