/- acme/acmeref07.Off as an automaton. Made by tools/cxauto.py. -/
import Derived.Test.YthagjhadjpangaaPkDJudges5

namespace Go.Proofs.Ythagjhadjpangaa.Cx
set_option linter.unusedVariables false
set_option linter.unusedSimpArgs false
set_option maxRecDepth 100000
open Go Go.Proofs Go.RowKit
noncomputable abbrev rofCode : Code := funcCode Try.f70
abbrev rofN := Empty
abbrev rofR := Int × Int
noncomputable def rofD0 (a0 : Bool) (a1 a2 a3 a4 : Int) (a5 : Nat) (a6 a7 : Nat → Int) (a8 a9 : Int) : DD (Lf rofN rofR) :=
 .ask (a0)
   (.leaf (.done (Ar.run .add .i64 (Ar.run .add .i64 a1 (Ar.run .sub .i64 0 a9)) a3, Ar.run .add .i64 (Ar.run .add .i64 a2 (Ar.run .sub .i64 0 a8)) a4) []))
   (.leaf (.done (Ar.run .add .i64 (Ar.run .add .i64 a1 a8) a3, Ar.run .add .i64 (Ar.run .add .i64 a2 a9) a4) []))

noncomputable def rofD (a0 : Bool) (a1 a2 a3 a4 : Int) (a5 : Nat) (a6 a7 : Nat → Int) (a8 a9 : Int) : rofN → DD (Lf rofN rofR) := fun a => nomatch a
noncomputable def rofA (a0 : Bool) (a1 a2 a3 a4 : Int) (a5 : Nat) (a6 a7 : Nat → Int) (a8 a9 : Int) : AF rofN rofR where
  code := rofCode
  base := 1
  nt := 35
  m := 400
  un := []
  W := []
  h0 := [(0, ⟨.arg a5 2 (fun i => [.int .i64 (.x (a6 i)), .int .i64 (.x (a7 i))]) (fun _ => ⟨rfl, rfl⟩), 2, true, none⟩)]
  args := [.agg [.bool (.x a0), .int .i64 (.x a1), .int .i64 (.x a2), .int .i64 (.x a3), .int .i64 (.x a4), .sla 0 2 0 a5], .agg [.int .i64 (.x a8), .int .i64 (.x a9)]]
  res := (Try.f70).results.toList
  path := fun a => nomatch a
  pd := fun a => nomatch a
  D0 := rofD0 a0 a1 a2 a3 a4 a5 a6 a7 a8 a9
  D := rofD a0 a1 a2 a3 a4 a5 a6 a7 a8 a9
  rc := (fun v => .agg [.int .i64 (.x v.1), .int .i64 (.x v.2)])
  rh := (fun v => [])
  rn := (fun v => 1)
  rx := (fun v => [])
  rgo := (fun _ => none)
theorem rofstart (a0 : Bool) (a1 a2 a3 a4 : Int) (a5 : Nat) (a6 a7 : Nat → Int) (a8 a9 : Int) : AF.edgeOk (rofA a0 a1 a2 a3 a4 a5 a6 a7 a8 a9) (ctxOf Try.prog memo0) (rofD0 a0 a1 a2 a3 a4 a5 a6 a7 a8 a9) (AF.run0 (rofA a0 a1 a2 a3 a4 a5 a6 a7 a8 a9) (ctxOf Try.prog memo0)) := by unfold AF.edgeOk; kernel_rfl
theorem rofok (a0 : Bool) (a1 a2 a3 a4 : Int) (a5 : Nat) (a6 a7 : Nat → Int) (a8 a9 : Int) : (rofA a0 a1 a2 a3 a4 a5 a6 a7 a8 a9).Ok Try.prog (ctxOf Try.prog memo0) where
  regs := by kernel_rfl
  h0 := by kernel_rfl
  start := rofstart a0 a1 a2 a3 a4 a5 a6 a7 a8 a9
  node := fun a _ => nomatch a
  pd := fun a => nomatch a
  le := fun a => nomatch a
  rd := fun v => ⟨⟨fa_nil, fa_nil, fa_nil, rfl⟩, rfl⟩
  wb := rfl
theorem rofhR {ρ : Env} (a0 : Bool) (a1 a2 a3 a4 : Int) (a5 : Nat) (a6 a7 : Nat → Int) (a8 a9 : Int) (hM : MemoOk Try.prog (ctxOf Try.prog memo0) ρ) : ∀ X a q n D, FxOk ρ X → X.base = (rofA a0 a1 a2 a3 a4 a5 a6 a7 a8 a9).base → X.nt = (rofA a0 a1 a2 a3 a4 a5 a6 a7 a8 a9).nt → X.W = (rofA a0 a1 a2 a3 a4 a5 a6 a7 a8 a9).W → (rofA a0 a1 a2 a3 a4 a5 a6 a7 a8 a9).rgo a = some q → q n = some D → (rofA a0 a1 a2 a3 a4 a5 a6 a7 a8 a9).RangeOk Try.prog ρ X a D := AF.noRange rfl
theorem rofctr {ρ : Env} (a0 : Bool) (a1 a2 a3 a4 : Int) (a5 : Nat) (a6 a7 : Nat → Int) (a8 a9 : Int) {n : Nat} {v : rofR} (hM : MemoOk Try.prog (ctxOf Try.prog memo0) ρ) (hv : (rofA a0 a1 a2 a3 a4 a5 a6 a7 a8 a9).run n = some v) :
    Ctr Try.prog ρ 70 (rofA a0 a1 a2 a3 a4 a5 a6 a7 a8 a9).args (rofA a0 a1 a2 a3 a4 a5 a6 a7 a8 a9).H0 (rofA a0 a1 a2 a3 a4 a5 a6 a7 a8 a9).base (rofA a0 a1 a2 a3 a4 a5 a6 a7 a8 a9).W ((rofA a0 a1 a2 a3 a4 a5 a6 a7 a8 a9).rc v) (putH (rofA a0 a1 a2 a3 a4 a5 a6 a7 a8 a9).H0 ((rofA a0 a1 a2 a3 a4 a5 a6 a7 a8 a9).rh v ++ (rofA a0 a1 a2 a3 a4 a5 a6 a7 a8 a9).rx v)) ((rofA a0 a1 a2 a3 a4 a5 a6 a7 a8 a9).rn v) :=
  AF.ctr try_ok hM (rofok a0 a1 a2 a3 a4 a5 a6 a7 a8 a9) (fn := Try.f70) Try.func70 rfl rfl (Nat.le_of_ble_eq_true rfl) rfl (rofhR a0 a1 a2 a3 a4 a5 a6 a7 a8 a9 hM) hv
theorem rofmem {ρ : Env} : MemoOk Try.prog (ctxOf Try.prog memo0) ρ := memo0_ok
abbrev rofP : List AQ := [.agg [.bool, .int .i64, .int .i64, .int .i64, .int .i64, .rows [some .i64, some .i64]], .agg [.int .i64, .int .i64]]
noncomputable def rofF (v : AW) : AF rofN rofR := rofA (v.b.getD 0 false) (v.i.getD 0 0) (v.i.getD 1 0) (v.i.getD 2 0) (v.i.getD 3 0) (v.t.getD 0 .none).n ((v.t.getD 0 .none).c 0) ((v.t.getD 0 .none).c 1) (v.i.getD 4 0) (v.i.getD 5 0)
noncomputable def rofW : rofR → CV := fun v => .agg [.int .i64 (.x v.1), .int .i64 (.x v.2)]
noncomputable def rofH : rofR → List (Nat × Blk) := fun v => []
instance : Inhabited rofR := ⟨(0, 0)⟩
theorem rofknown {ρ : Env} (hM : MemoOk Try.prog (ctxOf Try.prog memo0) ρ) : KnownS Try.prog ρ 70 rofP rofF rofW rofH 1 where
  fn := ⟨Try.f70, Try.func70, rfl⟩
  le := Nat.le_of_ble_eq_true rfl
  full := fun r => rfl
  rg := fun r => rfl
  hg := fun r => fa_nil
  ctr := fun v n r h => rofctr (v.b.getD 0 false) (v.i.getD 0 0) (v.i.getD 1 0) (v.i.getD 2 0) (v.i.getD 3 0) (v.t.getD 0 .none).n ((v.t.getD 0 .none).c 0) ((v.t.getD 0 .none).c 1) (v.i.getD 4 0) (v.i.getD 5 0) hM h
end Go.Proofs.Ythagjhadjpangaa.Cx

/- acme/acmeref07.Targets as an automaton. Made by tools/cxauto.py. -/
namespace Go.Proofs.Ythagjhadjpangaa.Cx
set_option linter.unusedVariables false
set_option linter.unusedSimpArgs false
set_option maxRecDepth 100000
open Go Go.Proofs Go.RowKit
noncomputable abbrev rdtCode : Code := funcCode Try.f24
inductive rdtN where
  | n0
  | n1 (p0 p1 p2 p3 p4 : Int)
abbrev rdtR := Int × Int
noncomputable def rdtD0 (a0 : Bool) (a1 a2 a3 a4 : Int) (a5 : Nat) (a6 a7 : Nat → Int) (a8 : Nat) (a9 a10 a11 a12 : Nat → Int) (a13 a14 : Int) : DD (Lf rdtN rdtR) :=
 .leaf (.next (.n0) [2, 3, 4, 5])

noncomputable def rdtD (a0 : Bool) (a1 a2 a3 a4 : Int) (a5 : Nat) (a6 a7 : Nat → Int) (a8 : Nat) (a9 a10 a11 a12 : Nat → Int) (a13 a14 : Int) : rdtN → DD (Lf rdtN rdtR)
 | .n0 =>
 let z0 := fun i => [CV.int IntKind.i64 (IE.x (a9 (0 + i))), CV.int IntKind.i64 (IE.x (a10 (0 + i))), CV.int IntKind.i64 (IE.x (a11 (0 + i))), CV.int IntKind.i64 (IE.x (a12 (0 + i)))]
 let z1 := rdoA a8 (fun i => a9 (0 + i)) (fun i => a10 (0 + i)) (fun i => a11 (0 + i)) (fun i => a12 (0 + i)) a13
 let z2 := fun i => [CV.int IntKind.i64 (IE.x (a6 (0 + i))), CV.int IntKind.i64 (IE.x (a7 (0 + i)))]
 let z3 := rofA a0 a1 a2 a3 a4 a5 (fun i => a6 (0 + i)) (fun i => a7 (0 + i)) 0 0
 let z4 := Prod.snd (AF.val z1)
 let z5 := Prod.snd z4
 let z6 := AF.val z3
 let z7 := fun i => [CV.int IntKind.i64 (IE.x (a9 i)), CV.int IntKind.i64 (IE.x (a10 i)), CV.int IntKind.i64 (IE.x (a11 i)), CV.int IntKind.i64 (IE.x (a12 i))]
 let z8 := tabOf a8 (fun i => z7 (0 + i))
 .ask (Cm.run .lss a13 a14)
   (.must (decide (0 + a8 ≤ a8))
   (.must (ShapeOk [some IntKind.i64, some IntKind.i64, some IntKind.i64, some IntKind.i64] (tabOf a8 z0) z0)
   (.must (AF.fin z1)
   (.must (decide (0 + a5 ≤ a5))
   (.must (ShapeOk [some IntKind.i64, some IntKind.i64] (tabOf a5 z2) z2)
   (.must (AF.fin z3)
   (.must (decide (0 ≤ Prod.fst z4))
   (.must (decide (Prod.fst z4 < (↑a5 : Int)))
   (.must (decide (0 + Int.toNat (Prod.fst z4) < a5))
   (.leaf (.next (.n1 (Ar.run .add .i64 a13 1) (Ar.run .mx .i64 (-1152921504606846976) (Ar.run .sub .i64 (Prod.fst z5) (Prod.fst z6))) (Ar.run .mn .i64 1152921504606846976 (Ar.run .sub .i64 (Prod.snd z5) (Prod.snd z6))) (Ar.run .add .i64 0 (a6 (0 + Int.toNat (Prod.fst (Prod.snd (AF.val (rdoF (AG.v { v := { i := AW.i (AG.v { v := { i := AW.i (AG.v { v := { i := [], b := [], t := [] }, sh := [], R := [] }), b := AW.b (AG.v { v := { i := [], b := [], t := [] }, sh := [], R := [] }), t := AW.t (AG.v { v := { i := [], b := [], t := [] }, sh := [], R := [] }) ++ [tabOf a8 fun i => z7 (0 + i)] }, sh := AG.sh { v := { i := [], b := [], t := [] }, sh := [], R := [] } ++ [decide (0 + a8 ≤ a8), ShapeOk [some IntKind.i64, some IntKind.i64, some IntKind.i64, some IntKind.i64] z8 fun i => z7 (0 + i)], R := AG.R { v := { i := [], b := [], t := [] }, sh := [], R := [] } ++ [1] }) ++ [a13], b := AW.b (AG.v { v := { i := AW.i (AG.v { v := { i := [], b := [], t := [] }, sh := [], R := [] }), b := AW.b (AG.v { v := { i := [], b := [], t := [] }, sh := [], R := [] }), t := AW.t (AG.v { v := { i := [], b := [], t := [] }, sh := [], R := [] }) ++ [tabOf a8 fun i => z7 (0 + i)] }, sh := AG.sh { v := { i := [], b := [], t := [] }, sh := [], R := [] } ++ [decide (0 + a8 ≤ a8), ShapeOk [some IntKind.i64, some IntKind.i64, some IntKind.i64, some IntKind.i64] z8 fun i => z7 (0 + i)], R := AG.R { v := { i := [], b := [], t := [] }, sh := [], R := [] } ++ [1] }), t := AW.t (AG.v { v := { i := AW.i (AG.v { v := { i := [], b := [], t := [] }, sh := [], R := [] }), b := AW.b (AG.v { v := { i := [], b := [], t := [] }, sh := [], R := [] }), t := AW.t (AG.v { v := { i := [], b := [], t := [] }, sh := [], R := [] }) ++ [tabOf a8 fun i => z7 (0 + i)] }, sh := AG.sh { v := { i := [], b := [], t := [] }, sh := [], R := [] } ++ [decide (0 + a8 ≤ a8), ShapeOk [some IntKind.i64, some IntKind.i64, some IntKind.i64, some IntKind.i64] z8 fun i => z7 (0 + i)], R := AG.R { v := { i := [], b := [], t := [] }, sh := [], R := [] } ++ [1] }) }, sh := AG.sh { v := { i := AW.i (AG.v { v := { i := [], b := [], t := [] }, sh := [], R := [] }), b := AW.b (AG.v { v := { i := [], b := [], t := [] }, sh := [], R := [] }), t := AW.t (AG.v { v := { i := [], b := [], t := [] }, sh := [], R := [] }) ++ [tabOf a8 fun i => z7 (0 + i)] }, sh := AG.sh { v := { i := [], b := [], t := [] }, sh := [], R := [] } ++ [decide (0 + a8 ≤ a8), ShapeOk [some IntKind.i64, some IntKind.i64, some IntKind.i64, some IntKind.i64] z8 fun i => z7 (0 + i)], R := AG.R { v := { i := [], b := [], t := [] }, sh := [], R := [] } ++ [1] }, R := AG.R { v := { i := AW.i (AG.v { v := { i := [], b := [], t := [] }, sh := [], R := [] }), b := AW.b (AG.v { v := { i := [], b := [], t := [] }, sh := [], R := [] }), t := AW.t (AG.v { v := { i := [], b := [], t := [] }, sh := [], R := [] }) ++ [tabOf a8 fun i => z7 (0 + i)] }, sh := AG.sh { v := { i := [], b := [], t := [] }, sh := [], R := [] } ++ [decide (0 + a8 ≤ a8), ShapeOk [some IntKind.i64, some IntKind.i64, some IntKind.i64, some IntKind.i64] z8 fun i => z7 (0 + i)], R := AG.R { v := { i := [], b := [], t := [] }, sh := [], R := [] } ++ [1] } })))))))) (Ar.run .add .i64 0 (a7 (0 + Int.toNat (Prod.fst (Prod.snd (AF.val (rdoF (AG.v { v := { i := AW.i (AG.v { v := { i := AW.i (AG.v { v := { i := [], b := [], t := [] }, sh := [], R := [] }), b := AW.b (AG.v { v := { i := [], b := [], t := [] }, sh := [], R := [] }), t := AW.t (AG.v { v := { i := [], b := [], t := [] }, sh := [], R := [] }) ++ [tabOf a8 fun i => z7 (0 + i)] }, sh := AG.sh { v := { i := [], b := [], t := [] }, sh := [], R := [] } ++ [decide (0 + a8 ≤ a8), ShapeOk [some IntKind.i64, some IntKind.i64, some IntKind.i64, some IntKind.i64] z8 fun i => z7 (0 + i)], R := AG.R { v := { i := [], b := [], t := [] }, sh := [], R := [] } ++ [1] }) ++ [a13], b := AW.b (AG.v { v := { i := AW.i (AG.v { v := { i := [], b := [], t := [] }, sh := [], R := [] }), b := AW.b (AG.v { v := { i := [], b := [], t := [] }, sh := [], R := [] }), t := AW.t (AG.v { v := { i := [], b := [], t := [] }, sh := [], R := [] }) ++ [tabOf a8 fun i => z7 (0 + i)] }, sh := AG.sh { v := { i := [], b := [], t := [] }, sh := [], R := [] } ++ [decide (0 + a8 ≤ a8), ShapeOk [some IntKind.i64, some IntKind.i64, some IntKind.i64, some IntKind.i64] z8 fun i => z7 (0 + i)], R := AG.R { v := { i := [], b := [], t := [] }, sh := [], R := [] } ++ [1] }), t := AW.t (AG.v { v := { i := AW.i (AG.v { v := { i := [], b := [], t := [] }, sh := [], R := [] }), b := AW.b (AG.v { v := { i := [], b := [], t := [] }, sh := [], R := [] }), t := AW.t (AG.v { v := { i := [], b := [], t := [] }, sh := [], R := [] }) ++ [tabOf a8 fun i => z7 (0 + i)] }, sh := AG.sh { v := { i := [], b := [], t := [] }, sh := [], R := [] } ++ [decide (0 + a8 ≤ a8), ShapeOk [some IntKind.i64, some IntKind.i64, some IntKind.i64, some IntKind.i64] z8 fun i => z7 (0 + i)], R := AG.R { v := { i := [], b := [], t := [] }, sh := [], R := [] } ++ [1] }) }, sh := AG.sh { v := { i := AW.i (AG.v { v := { i := [], b := [], t := [] }, sh := [], R := [] }), b := AW.b (AG.v { v := { i := [], b := [], t := [] }, sh := [], R := [] }), t := AW.t (AG.v { v := { i := [], b := [], t := [] }, sh := [], R := [] }) ++ [tabOf a8 fun i => z7 (0 + i)] }, sh := AG.sh { v := { i := [], b := [], t := [] }, sh := [], R := [] } ++ [decide (0 + a8 ≤ a8), ShapeOk [some IntKind.i64, some IntKind.i64, some IntKind.i64, some IntKind.i64] z8 fun i => z7 (0 + i)], R := AG.R { v := { i := [], b := [], t := [] }, sh := [], R := [] } ++ [1] }, R := AG.R { v := { i := AW.i (AG.v { v := { i := [], b := [], t := [] }, sh := [], R := [] }), b := AW.b (AG.v { v := { i := [], b := [], t := [] }, sh := [], R := [] }), t := AW.t (AG.v { v := { i := [], b := [], t := [] }, sh := [], R := [] }) ++ [tabOf a8 fun i => z7 (0 + i)] }, sh := AG.sh { v := { i := [], b := [], t := [] }, sh := [], R := [] } ++ [decide (0 + a8 ≤ a8), ShapeOk [some IntKind.i64, some IntKind.i64, some IntKind.i64, some IntKind.i64] z8 fun i => z7 (0 + i)], R := AG.R { v := { i := [], b := [], t := [] }, sh := [], R := [] } ++ [1] } }))))))))) [2, 3, 4, 5])))))))))))
   (.leaf (.done (-1152921504606846976, 1152921504606846976) []))
 | .n1 p0 p1 p2 p3 p4 =>
 let z0 := fun i => [CV.int IntKind.i64 (IE.x (a9 (0 + i))), CV.int IntKind.i64 (IE.x (a10 (0 + i))), CV.int IntKind.i64 (IE.x (a11 (0 + i))), CV.int IntKind.i64 (IE.x (a12 (0 + i)))]
 let z1 := rdoA a8 (fun i => a9 (0 + i)) (fun i => a10 (0 + i)) (fun i => a11 (0 + i)) (fun i => a12 (0 + i)) p0
 let z2 := fun i => [CV.int IntKind.i64 (IE.x (a6 (0 + i))), CV.int IntKind.i64 (IE.x (a7 (0 + i)))]
 let z3 := rofA a0 a1 a2 a3 a4 a5 (fun i => a6 (0 + i)) (fun i => a7 (0 + i)) p3 p4
 let z4 := Prod.snd (AF.val z1)
 let z5 := Prod.snd z4
 let z6 := AF.val z3
 let z7 := fun i => [CV.int IntKind.i64 (IE.x (a9 i)), CV.int IntKind.i64 (IE.x (a10 i)), CV.int IntKind.i64 (IE.x (a11 i)), CV.int IntKind.i64 (IE.x (a12 i))]
 let z8 := tabOf a8 (fun i => z7 (0 + i))
 .ask (Cm.run .lss p0 a14)
   (.must (decide (0 + a8 ≤ a8))
   (.must (ShapeOk [some IntKind.i64, some IntKind.i64, some IntKind.i64, some IntKind.i64] (tabOf a8 z0) z0)
   (.must (AF.fin z1)
   (.must (decide (0 + a5 ≤ a5))
   (.must (ShapeOk [some IntKind.i64, some IntKind.i64] (tabOf a5 z2) z2)
   (.must (AF.fin z3)
   (.must (decide (0 ≤ Prod.fst z4))
   (.must (decide (Prod.fst z4 < (↑a5 : Int)))
   (.must (decide (0 + Int.toNat (Prod.fst z4) < a5))
   (.leaf (.next (.n1 (Ar.run .add .i64 p0 1) (Ar.run .mx .i64 p1 (Ar.run .sub .i64 (Prod.fst z5) (Prod.fst z6))) (Ar.run .mn .i64 p2 (Ar.run .sub .i64 (Prod.snd z5) (Prod.snd z6))) (Ar.run .add .i64 p3 (a6 (0 + Int.toNat (Prod.fst (Prod.snd (AF.val (rdoF (AG.v { v := { i := AW.i (AG.v { v := { i := AW.i (AG.v { v := { i := [], b := [], t := [] }, sh := [], R := [] }), b := AW.b (AG.v { v := { i := [], b := [], t := [] }, sh := [], R := [] }), t := AW.t (AG.v { v := { i := [], b := [], t := [] }, sh := [], R := [] }) ++ [tabOf a8 fun i => z7 (0 + i)] }, sh := AG.sh { v := { i := [], b := [], t := [] }, sh := [], R := [] } ++ [decide (0 + a8 ≤ a8), ShapeOk [some IntKind.i64, some IntKind.i64, some IntKind.i64, some IntKind.i64] z8 fun i => z7 (0 + i)], R := AG.R { v := { i := [], b := [], t := [] }, sh := [], R := [] } ++ [1] }) ++ [p0], b := AW.b (AG.v { v := { i := AW.i (AG.v { v := { i := [], b := [], t := [] }, sh := [], R := [] }), b := AW.b (AG.v { v := { i := [], b := [], t := [] }, sh := [], R := [] }), t := AW.t (AG.v { v := { i := [], b := [], t := [] }, sh := [], R := [] }) ++ [tabOf a8 fun i => z7 (0 + i)] }, sh := AG.sh { v := { i := [], b := [], t := [] }, sh := [], R := [] } ++ [decide (0 + a8 ≤ a8), ShapeOk [some IntKind.i64, some IntKind.i64, some IntKind.i64, some IntKind.i64] z8 fun i => z7 (0 + i)], R := AG.R { v := { i := [], b := [], t := [] }, sh := [], R := [] } ++ [1] }), t := AW.t (AG.v { v := { i := AW.i (AG.v { v := { i := [], b := [], t := [] }, sh := [], R := [] }), b := AW.b (AG.v { v := { i := [], b := [], t := [] }, sh := [], R := [] }), t := AW.t (AG.v { v := { i := [], b := [], t := [] }, sh := [], R := [] }) ++ [tabOf a8 fun i => z7 (0 + i)] }, sh := AG.sh { v := { i := [], b := [], t := [] }, sh := [], R := [] } ++ [decide (0 + a8 ≤ a8), ShapeOk [some IntKind.i64, some IntKind.i64, some IntKind.i64, some IntKind.i64] z8 fun i => z7 (0 + i)], R := AG.R { v := { i := [], b := [], t := [] }, sh := [], R := [] } ++ [1] }) }, sh := AG.sh { v := { i := AW.i (AG.v { v := { i := [], b := [], t := [] }, sh := [], R := [] }), b := AW.b (AG.v { v := { i := [], b := [], t := [] }, sh := [], R := [] }), t := AW.t (AG.v { v := { i := [], b := [], t := [] }, sh := [], R := [] }) ++ [tabOf a8 fun i => z7 (0 + i)] }, sh := AG.sh { v := { i := [], b := [], t := [] }, sh := [], R := [] } ++ [decide (0 + a8 ≤ a8), ShapeOk [some IntKind.i64, some IntKind.i64, some IntKind.i64, some IntKind.i64] z8 fun i => z7 (0 + i)], R := AG.R { v := { i := [], b := [], t := [] }, sh := [], R := [] } ++ [1] }, R := AG.R { v := { i := AW.i (AG.v { v := { i := [], b := [], t := [] }, sh := [], R := [] }), b := AW.b (AG.v { v := { i := [], b := [], t := [] }, sh := [], R := [] }), t := AW.t (AG.v { v := { i := [], b := [], t := [] }, sh := [], R := [] }) ++ [tabOf a8 fun i => z7 (0 + i)] }, sh := AG.sh { v := { i := [], b := [], t := [] }, sh := [], R := [] } ++ [decide (0 + a8 ≤ a8), ShapeOk [some IntKind.i64, some IntKind.i64, some IntKind.i64, some IntKind.i64] z8 fun i => z7 (0 + i)], R := AG.R { v := { i := [], b := [], t := [] }, sh := [], R := [] } ++ [1] } })))))))) (Ar.run .add .i64 p4 (a7 (0 + Int.toNat (Prod.fst (Prod.snd (AF.val (rdoF (AG.v { v := { i := AW.i (AG.v { v := { i := AW.i (AG.v { v := { i := [], b := [], t := [] }, sh := [], R := [] }), b := AW.b (AG.v { v := { i := [], b := [], t := [] }, sh := [], R := [] }), t := AW.t (AG.v { v := { i := [], b := [], t := [] }, sh := [], R := [] }) ++ [tabOf a8 fun i => z7 (0 + i)] }, sh := AG.sh { v := { i := [], b := [], t := [] }, sh := [], R := [] } ++ [decide (0 + a8 ≤ a8), ShapeOk [some IntKind.i64, some IntKind.i64, some IntKind.i64, some IntKind.i64] z8 fun i => z7 (0 + i)], R := AG.R { v := { i := [], b := [], t := [] }, sh := [], R := [] } ++ [1] }) ++ [p0], b := AW.b (AG.v { v := { i := AW.i (AG.v { v := { i := [], b := [], t := [] }, sh := [], R := [] }), b := AW.b (AG.v { v := { i := [], b := [], t := [] }, sh := [], R := [] }), t := AW.t (AG.v { v := { i := [], b := [], t := [] }, sh := [], R := [] }) ++ [tabOf a8 fun i => z7 (0 + i)] }, sh := AG.sh { v := { i := [], b := [], t := [] }, sh := [], R := [] } ++ [decide (0 + a8 ≤ a8), ShapeOk [some IntKind.i64, some IntKind.i64, some IntKind.i64, some IntKind.i64] z8 fun i => z7 (0 + i)], R := AG.R { v := { i := [], b := [], t := [] }, sh := [], R := [] } ++ [1] }), t := AW.t (AG.v { v := { i := AW.i (AG.v { v := { i := [], b := [], t := [] }, sh := [], R := [] }), b := AW.b (AG.v { v := { i := [], b := [], t := [] }, sh := [], R := [] }), t := AW.t (AG.v { v := { i := [], b := [], t := [] }, sh := [], R := [] }) ++ [tabOf a8 fun i => z7 (0 + i)] }, sh := AG.sh { v := { i := [], b := [], t := [] }, sh := [], R := [] } ++ [decide (0 + a8 ≤ a8), ShapeOk [some IntKind.i64, some IntKind.i64, some IntKind.i64, some IntKind.i64] z8 fun i => z7 (0 + i)], R := AG.R { v := { i := [], b := [], t := [] }, sh := [], R := [] } ++ [1] }) }, sh := AG.sh { v := { i := AW.i (AG.v { v := { i := [], b := [], t := [] }, sh := [], R := [] }), b := AW.b (AG.v { v := { i := [], b := [], t := [] }, sh := [], R := [] }), t := AW.t (AG.v { v := { i := [], b := [], t := [] }, sh := [], R := [] }) ++ [tabOf a8 fun i => z7 (0 + i)] }, sh := AG.sh { v := { i := [], b := [], t := [] }, sh := [], R := [] } ++ [decide (0 + a8 ≤ a8), ShapeOk [some IntKind.i64, some IntKind.i64, some IntKind.i64, some IntKind.i64] z8 fun i => z7 (0 + i)], R := AG.R { v := { i := [], b := [], t := [] }, sh := [], R := [] } ++ [1] }, R := AG.R { v := { i := AW.i (AG.v { v := { i := [], b := [], t := [] }, sh := [], R := [] }), b := AW.b (AG.v { v := { i := [], b := [], t := [] }, sh := [], R := [] }), t := AW.t (AG.v { v := { i := [], b := [], t := [] }, sh := [], R := [] }) ++ [tabOf a8 fun i => z7 (0 + i)] }, sh := AG.sh { v := { i := [], b := [], t := [] }, sh := [], R := [] } ++ [decide (0 + a8 ≤ a8), ShapeOk [some IntKind.i64, some IntKind.i64, some IntKind.i64, some IntKind.i64] z8 fun i => z7 (0 + i)], R := AG.R { v := { i := [], b := [], t := [] }, sh := [], R := [] } ++ [1] } }))))))))) [2, 3, 4, 5])))))))))))
   (.leaf (.done (p1, p2) []))

noncomputable def rdtA (a0 : Bool) (a1 a2 a3 a4 : Int) (a5 : Nat) (a6 a7 : Nat → Int) (a8 : Nat) (a9 a10 a11 a12 : Nat → Int) (a13 a14 : Int) : AF rdtN rdtR where
  code := rdtCode
  base := 2
  nt := 66
  m := 400
  un := []
  W := []
  h0 := [(0, ⟨.arg a5 2 (fun i => [.int .i64 (.x (a6 i)), .int .i64 (.x (a7 i))]) (fun _ => ⟨rfl, rfl⟩), 2, true, none⟩), (1, ⟨.arg a8 4 (fun i => [.int .i64 (.x (a9 i)), .int .i64 (.x (a10 i)), .int .i64 (.x (a11 i)), .int .i64 (.x (a12 i))]) (fun _ => ⟨rfl, rfl⟩), 4, true, none⟩)]
  args := [.agg [.bool (.x a0), .int .i64 (.x a1), .int .i64 (.x a2), .int .i64 (.x a3), .int .i64 (.x a4), .sla 0 2 0 a5], .sla 1 4 0 a8, .int .i64 (.x a13), .int .i64 (.x a14)]
  res := (Try.f24).results.toList
  path := fun a => match a with
   | .n0 => [1, 1, 0, 1, 0]
   | .n1 p0 p1 p2 p3 p4 => [1, 1, 0, 1, 0]
  pd := fun a => match a with
   | .n0 => ⟨[(1, .sla 1 4 0 a8), (3, .int .i64 (.x a14)), (4, .ptr (some (2, 0))), (8, .ptr (some (3, 0))), (9, .ptr (some (4, 0))), (10, .ptr (some (5, 0))), (11, .int .i64 (.x a13))], [(2, ⟨.lit [.bool (.x a0), .int .i64 (.x a1), .int .i64 (.x a2), .int .i64 (.x a3), .int .i64 (.x a4), .sla 0 2 0 a5], 0, true, none⟩), (3, ⟨.lit [.int .i64 (.x 0), .int .i64 (.x 0)], 0, true, none⟩), (4, ⟨.lit [.int .i64 (.x (-1152921504606846976)), .int .i64 (.x 1152921504606846976)], 0, true, none⟩), (5, ⟨.lit [.int .i64 (.x 0), .int .i64 (.x 0)], 0, true, none⟩)], 6, []⟩
   | .n1 p0 p1 p2 p3 p4 => ⟨[(1, .sla 1 4 0 a8), (3, .int .i64 (.x a14)), (4, .ptr (some (2, 0))), (8, .ptr (some (3, 0))), (9, .ptr (some (4, 0))), (10, .ptr (some (5, 0))), (11, .int .i64 (.x p0)), (23, .sla 1 4 0 a8)], [(2, ⟨.lit [.bool (.x a0), .int .i64 (.x a1), .int .i64 (.x a2), .int .i64 (.x a3), .int .i64 (.x a4), .sla 0 2 0 a5], 0, true, none⟩), (3, ⟨.lit [.int .i64 (.x 0), .int .i64 (.x 0)], 0, true, none⟩), (4, ⟨.lit [.int .i64 (.x p1), .int .i64 (.x p2)], 0, true, none⟩), (5, ⟨.lit [.int .i64 (.x p3), .int .i64 (.x p4)], 0, true, none⟩)], 6, []⟩
  D0 := rdtD0 a0 a1 a2 a3 a4 a5 a6 a7 a8 a9 a10 a11 a12 a13 a14
  D := rdtD a0 a1 a2 a3 a4 a5 a6 a7 a8 a9 a10 a11 a12 a13 a14
  rc := (fun v => .agg [.int .i64 (.x v.1), .int .i64 (.x v.2)])
  rh := (fun v => [])
  rn := (fun v => 2)
  rx := (fun v => [])
  rgo := (fun _ => none)
theorem rdtstart (a0 : Bool) (a1 a2 a3 a4 : Int) (a5 : Nat) (a6 a7 : Nat → Int) (a8 : Nat) (a9 a10 a11 a12 : Nat → Int) (a13 a14 : Int) : AF.edgeOk (rdtA a0 a1 a2 a3 a4 a5 a6 a7 a8 a9 a10 a11 a12 a13 a14) (ctxOf Try.prog memo0) (rdtD0 a0 a1 a2 a3 a4 a5 a6 a7 a8 a9 a10 a11 a12 a13 a14) (AF.run0 (rdtA a0 a1 a2 a3 a4 a5 a6 a7 a8 a9 a10 a11 a12 a13 a14) (ctxOf Try.prog (memoS 70 rofP rofF rofW rofH 1 (memoS 69 rdoP rdoF rdoW rdoH 1 memo0)))) := by unfold AF.edgeOk; kernel_rfl
theorem rdtnode0 (a0 : Bool) (a1 a2 a3 a4 : Int) (a5 : Nat) (a6 a7 : Nat → Int) (a8 : Nat) (a9 a10 a11 a12 : Nat → Int) (a13 a14 : Int) : AF.edgeOk (rdtA a0 a1 a2 a3 a4 a5 a6 a7 a8 a9 a10 a11 a12 a13 a14) (ctxOf Try.prog memo0) (rdtD a0 a1 a2 a3 a4 a5 a6 a7 a8 a9 a10 a11 a12 a13 a14 (.n0)) (AF.runN (rdtA a0 a1 a2 a3 a4 a5 a6 a7 a8 a9 a10 a11 a12 a13 a14) (ctxOf Try.prog (memoS 70 rofP rofF rofW rofH 1 (memoS 69 rdoP rdoF rdoW rdoH 1 memo0))) (.n0)) := by unfold AF.edgeOk; kernel_rfl
theorem rdtnode1 (a0 : Bool) (a1 a2 a3 a4 : Int) (a5 : Nat) (a6 a7 : Nat → Int) (a8 : Nat) (a9 a10 a11 a12 : Nat → Int) (a13 a14 p0 p1 p2 p3 p4 : Int) : AF.edgeOk (rdtA a0 a1 a2 a3 a4 a5 a6 a7 a8 a9 a10 a11 a12 a13 a14) (ctxOf Try.prog memo0) (rdtD a0 a1 a2 a3 a4 a5 a6 a7 a8 a9 a10 a11 a12 a13 a14 (.n1 p0 p1 p2 p3 p4)) (AF.runN (rdtA a0 a1 a2 a3 a4 a5 a6 a7 a8 a9 a10 a11 a12 a13 a14) (ctxOf Try.prog (memoS 70 rofP rofF rofW rofH 1 (memoS 69 rdoP rdoF rdoW rdoH 1 memo0))) (.n1 p0 p1 p2 p3 p4)) := by unfold AF.edgeOk; kernel_rfl
theorem rdtok (a0 : Bool) (a1 a2 a3 a4 : Int) (a5 : Nat) (a6 a7 : Nat → Int) (a8 : Nat) (a9 a10 a11 a12 : Nat → Int) (a13 a14 : Int) : (rdtA a0 a1 a2 a3 a4 a5 a6 a7 a8 a9 a10 a11 a12 a13 a14).Ok Try.prog (ctxOf Try.prog (memoS 70 rofP rofF rofW rofH 1 (memoS 69 rdoP rdoF rdoW rdoH 1 memo0))) where
  regs := by kernel_rfl
  h0 := by kernel_rfl
  start := rdtstart a0 a1 a2 a3 a4 a5 a6 a7 a8 a9 a10 a11 a12 a13 a14
  node := fun a _ => match a with
   | .n0 => rdtnode0 a0 a1 a2 a3 a4 a5 a6 a7 a8 a9 a10 a11 a12 a13 a14
   | .n1 p0 p1 p2 p3 p4 => rdtnode1 a0 a1 a2 a3 a4 a5 a6 a7 a8 a9 a10 a11 a12 a13 a14 p0 p1 p2 p3 p4
  pd := fun a => match a with
   | .n0 => ⟨(fa_cons rfl (fa_cons rfl (fa_cons rfl (fa_cons rfl (fa_cons rfl (fa_cons rfl (fa_cons rfl fa_nil))))))), (fa_cons ⟨.inl (Nat.le_of_ble_eq_true rfl), rfl, rfl⟩ (fa_cons ⟨.inl (Nat.le_of_ble_eq_true rfl), rfl, rfl⟩ (fa_cons ⟨.inl (Nat.le_of_ble_eq_true rfl), rfl, rfl⟩ (fa_cons ⟨.inl (Nat.le_of_ble_eq_true rfl), rfl, rfl⟩ fa_nil)))), fa_nil, rfl⟩
   | .n1 p0 p1 p2 p3 p4 => ⟨(fa_cons rfl (fa_cons rfl (fa_cons rfl (fa_cons rfl (fa_cons rfl (fa_cons rfl (fa_cons rfl (fa_cons rfl fa_nil)))))))), (fa_cons ⟨.inl (Nat.le_of_ble_eq_true rfl), rfl, rfl⟩ (fa_cons ⟨.inl (Nat.le_of_ble_eq_true rfl), rfl, rfl⟩ (fa_cons ⟨.inl (Nat.le_of_ble_eq_true rfl), rfl, rfl⟩ (fa_cons ⟨.inl (Nat.le_of_ble_eq_true rfl), rfl, rfl⟩ fa_nil)))), fa_nil, rfl⟩
  le := fun a => match a with
   | .n0 => Nat.le_of_ble_eq_true rfl
   | .n1 p0 p1 p2 p3 p4 => Nat.le_of_ble_eq_true rfl
  rd := fun v => ⟨⟨fa_nil, fa_nil, fa_nil, rfl⟩, rfl⟩
  wb := rfl
theorem rdthR {ρ : Env} (a0 : Bool) (a1 a2 a3 a4 : Int) (a5 : Nat) (a6 a7 : Nat → Int) (a8 : Nat) (a9 a10 a11 a12 : Nat → Int) (a13 a14 : Int) (hM : MemoOk Try.prog (ctxOf Try.prog (memoS 70 rofP rofF rofW rofH 1 (memoS 69 rdoP rdoF rdoW rdoH 1 memo0))) ρ) : ∀ X a q n D, FxOk ρ X → X.base = (rdtA a0 a1 a2 a3 a4 a5 a6 a7 a8 a9 a10 a11 a12 a13 a14).base → X.nt = (rdtA a0 a1 a2 a3 a4 a5 a6 a7 a8 a9 a10 a11 a12 a13 a14).nt → X.W = (rdtA a0 a1 a2 a3 a4 a5 a6 a7 a8 a9 a10 a11 a12 a13 a14).W → (rdtA a0 a1 a2 a3 a4 a5 a6 a7 a8 a9 a10 a11 a12 a13 a14).rgo a = some q → q n = some D → (rdtA a0 a1 a2 a3 a4 a5 a6 a7 a8 a9 a10 a11 a12 a13 a14).RangeOk Try.prog ρ X a D := AF.noRange rfl
theorem rdtctr {ρ : Env} (a0 : Bool) (a1 a2 a3 a4 : Int) (a5 : Nat) (a6 a7 : Nat → Int) (a8 : Nat) (a9 a10 a11 a12 : Nat → Int) (a13 a14 : Int) {n : Nat} {v : rdtR} (hM : MemoOk Try.prog (ctxOf Try.prog (memoS 70 rofP rofF rofW rofH 1 (memoS 69 rdoP rdoF rdoW rdoH 1 memo0))) ρ) (hv : (rdtA a0 a1 a2 a3 a4 a5 a6 a7 a8 a9 a10 a11 a12 a13 a14).run n = some v) :
    Ctr Try.prog ρ 24 (rdtA a0 a1 a2 a3 a4 a5 a6 a7 a8 a9 a10 a11 a12 a13 a14).args (rdtA a0 a1 a2 a3 a4 a5 a6 a7 a8 a9 a10 a11 a12 a13 a14).H0 (rdtA a0 a1 a2 a3 a4 a5 a6 a7 a8 a9 a10 a11 a12 a13 a14).base (rdtA a0 a1 a2 a3 a4 a5 a6 a7 a8 a9 a10 a11 a12 a13 a14).W ((rdtA a0 a1 a2 a3 a4 a5 a6 a7 a8 a9 a10 a11 a12 a13 a14).rc v) (putH (rdtA a0 a1 a2 a3 a4 a5 a6 a7 a8 a9 a10 a11 a12 a13 a14).H0 ((rdtA a0 a1 a2 a3 a4 a5 a6 a7 a8 a9 a10 a11 a12 a13 a14).rh v ++ (rdtA a0 a1 a2 a3 a4 a5 a6 a7 a8 a9 a10 a11 a12 a13 a14).rx v)) ((rdtA a0 a1 a2 a3 a4 a5 a6 a7 a8 a9 a10 a11 a12 a13 a14).rn v) :=
  AF.ctr try_ok hM (rdtok a0 a1 a2 a3 a4 a5 a6 a7 a8 a9 a10 a11 a12 a13 a14) (fn := Try.f24) Try.func24 rfl rfl (Nat.le_of_ble_eq_true rfl) rfl (rdthR a0 a1 a2 a3 a4 a5 a6 a7 a8 a9 a10 a11 a12 a13 a14 hM) hv
theorem rdtmem {ρ : Env} : MemoOk Try.prog (ctxOf Try.prog (memoS 70 rofP rofF rofW rofH 1 (memoS 69 rdoP rdoF rdoW rdoH 1 memo0))) ρ := (memoS_ok (rofknown rofmem) (memoS_ok (rdoknown rdomem) memo0_ok))
abbrev rdtP : List AQ := [.agg [.bool, .int .i64, .int .i64, .int .i64, .int .i64, .rows [some .i64, some .i64]], .rows [some .i64, some .i64, some .i64, some .i64], .int .i64, .int .i64]
noncomputable def rdtF (v : AW) : AF rdtN rdtR := rdtA (v.b.getD 0 false) (v.i.getD 0 0) (v.i.getD 1 0) (v.i.getD 2 0) (v.i.getD 3 0) (v.t.getD 0 .none).n ((v.t.getD 0 .none).c 0) ((v.t.getD 0 .none).c 1) (v.t.getD 1 .none).n ((v.t.getD 1 .none).c 0) ((v.t.getD 1 .none).c 1) ((v.t.getD 1 .none).c 2) ((v.t.getD 1 .none).c 3) (v.i.getD 4 0) (v.i.getD 5 0)
noncomputable def rdtW : rdtR → CV := fun v => .agg [.int .i64 (.x v.1), .int .i64 (.x v.2)]
noncomputable def rdtH : rdtR → List (Nat × Blk) := fun v => []
instance : Inhabited rdtR := ⟨(0, 0)⟩
theorem rdtknown {ρ : Env} (hM : MemoOk Try.prog (ctxOf Try.prog (memoS 70 rofP rofF rofW rofH 1 (memoS 69 rdoP rdoF rdoW rdoH 1 memo0))) ρ) : KnownS Try.prog ρ 24 rdtP rdtF rdtW rdtH 2 where
  fn := ⟨Try.f24, Try.func24, rfl⟩
  le := Nat.le_of_ble_eq_true rfl
  full := fun r => rfl
  rg := fun r => rfl
  hg := fun r => fa_nil
  ctr := fun v n r h => rdtctr (v.b.getD 0 false) (v.i.getD 0 0) (v.i.getD 1 0) (v.i.getD 2 0) (v.i.getD 3 0) (v.t.getD 0 .none).n ((v.t.getD 0 .none).c 0) ((v.t.getD 0 .none).c 1) (v.t.getD 1 .none).n ((v.t.getD 1 .none).c 0) ((v.t.getD 1 .none).c 1) ((v.t.getD 1 .none).c 2) ((v.t.getD 1 .none).c 3) (v.i.getD 4 0) (v.i.getD 5 0) hM h
end Go.Proofs.Ythagjhadjpangaa.Cx

/- acmeref07.Wear and Targets: pieces one after another. -/
namespace Go.Proofs.Ythagjhadjpangaa.Cx
set_option linter.unusedVariables false
set_option linter.unusedSimpArgs false
set_option maxRecDepth 100000
set_option maxHeartbeats 4000000
open Go Go.RowKit
/-- A valid tool and valid orders. -/
structure JobOk (a1 a2 a3 a4 : Int) (a5 : Nat) (a6 a7 : Nat → Int) (a8 : Nat) (a9 a10 a11 a12 : Nat → Int) : Prop where
  tool : ToolOk a5 a6 a7 a1 a2 a3 a4
  few : a8 ≤ 40
  ord : ∀ i : Nat, i < a8 → OrdOk a5 (a9 i) (a10 i) (a11 i) (a12 i)
/-- What the piece x wears, at an end of the wears. -/
def gW (w st pc : Nat → Int) (m : Nat) (x : Int) : Int := w (st (ordK pc m x)).toNat
/-- The least, the greatest target of the piece behind j others. -/
def tlP (b : Bool) (s1 c1 : Int) (w1 w2 st pc zl : Nat → Int) (m : Nat) (f : Int) (j : Nat) : Int := zl (ordK pc m (f + j)) - s1 - gL b (WSum (gW w1 st pc m) f j) (WSum (gW w2 st pc m) f j) - c1
def thP (b : Bool) (s2 c2 : Int) (w1 w2 st pc zh : Nat → Int) (m : Nat) (f : Int) (j : Nat) : Int := zh (ordK pc m (f + j)) - s2 - gH b (WSum (gW w1 st pc m) f j) (WSum (gW w2 st pc m) f j) - c2
section
variable {a0 : Bool} {a1 a2 a3 a4 : Int} {a5 : Nat} {a6 a7 : Nat → Int} {a8 : Nat} {a9 a10 a11 a12 : Nat → Int} {a13 a14 : Int}
theorem JobOk.pc (h : JobOk a1 a2 a3 a4 a5 a6 a7 a8 a9 a10 a11 a12) : ∀ i : Nat, i < a8 → 1 ≤ a9 i ∧ a9 i ≤ 10000 := fun i hi => ⟨(h.ord i hi).1.1, (h.ord i hi).1.2.1⟩
theorem JobOk.at' (h : JobOk a1 a2 a3 a4 a5 a6 a7 a8 a9 a10 a11 a12) {x : Int} (h0 : 0 ≤ x) (h1 : x < PS a9 a8) : ordK a9 a8 x < a8 ∧ (0 ≤ a10 (ordK a9 a8 x) ∧ a10 (ordK a9 a8 x) < a5) ∧ (0 ≤ a11 (ordK a9 a8 x) ∧ a11 (ordK a9 a8 x) ≤ a12 (ordK a9 a8 x) ∧ a12 (ordK a9 a8 x) ≤ 10000000000) ∧ (0 ≤ gW a6 a10 a9 a8 x ∧ gW a6 a10 a9 a8 x ≤ gW a7 a10 a9 a8 x ∧ gW a7 a10 a9 a8 x ≤ 100000) := by
  obtain ⟨k1, k2, k3⟩ := ordK_spec (pc := a9) a8 h0 h1
  obtain ⟨⟨o1, o2, o3⟩, o4⟩ := h.ord _ k1
  have := h.tool.2.1 (a10 (ordK a9 a8 x)).toNat (by omega)
  exact ⟨k1, o4, o3, this⟩
theorem JobOk.rdo (h : JobOk a1 a2 a3 a4 a5 a6 a7 a8 a9 a10 a11 a12) {x : Int} (h0 : 0 ≤ x) (h1 : x < PS a9 a8) : AF.fin (rdoA a8 a9 a10 a11 a12 x) = true ∧ AF.val (rdoA a8 a9 a10 a11 a12 x) = (a9 (ordK a9 a8 x), a10 (ordK a9 a8 x), a11 (ordK a9 a8 x), a12 (ordK a9 a8 x)) := by
  obtain ⟨f, k, k1, k2, k3, k4⟩ := rdo_val (a0 := a8) (a1 := a9) (a2 := a10) (a3 := a11) (a4 := a12) h.few h.pc h0 h1
  rw [ordK_uniq h.pc k1 k2 k3]
  exact ⟨f, k4⟩
theorem JobOk.wsum (h : JobOk a1 a2 a3 a4 a5 a6 a7 a8 a9 a10 a11 a12) {f : Int} {j : Nat} (h0 : 0 ≤ f) (h1 : f + j ≤ PS a9 a8) : (0 ≤ WSum (gW a6 a10 a9 a8) f j ∧ WSum (gW a6 a10 a9 a8) f j ≤ 40000000000) ∧ (0 ≤ WSum (gW a7 a10 a9 a8) f j ∧ WSum (gW a7 a10 a9 a8) f j ≤ 40000000000) ∧ PS a9 a8 ≤ 400000 := by
  have r := PS_rng h.pc a8 (Nat.le_refl _)
  have hf := h.few
  have g : ∀ i : Nat, i < j → 0 ≤ gW a6 a10 a9 a8 (f + i) ∧ gW a6 a10 a9 a8 (f + i) ≤ gW a7 a10 a9 a8 (f + i) ∧ gW a7 a10 a9 a8 (f + i) ≤ 100000 := fun i hi => (h.at' (x := f + i) (by omega) (by omega)).2.2.2
  have s1 := WSum_rng (g := gW a6 a10 a9 a8) (f := f) j (fun i hi => by have := g i hi; omega)
  have s2 := WSum_rng (g := gW a7 a10 a9 a8) (f := f) j (fun i hi => by have := g i hi; omega)
  omega
end
end Go.Proofs.Ythagjhadjpangaa.Cx

/- acmeref07.Targets: pieces one after another. -/
namespace Go.Proofs.Ythagjhadjpangaa.Cx
set_option linter.unusedVariables false
set_option linter.unusedSimpArgs false
set_option maxRecDepth 100000
set_option maxHeartbeats 4000000
open Go Go.RowKit
section
variable {a0 : Bool} {a1 a2 a3 a4 : Int} {a5 : Nat} {a6 a7 : Nat → Int} {a8 a9 : Int}
theorem rof_ok (h1 : -1000000 ≤ a1 ∧ a1 ≤ a2 ∧ a2 ≤ 1000000) (h2 : -1000000 ≤ a3 ∧ a3 ≤ a4 ∧ a4 ≤ 1000000) (h3 : 0 ≤ a8 ∧ a8 ≤ 40000000000) (h4 : 0 ≤ a9 ∧ a9 ≤ 40000000000) :
    AF.fin (rofA a0 a1 a2 a3 a4 a5 a6 a7 a8 a9) = true ∧ AF.val (rofA a0 a1 a2 a3 a4 a5 a6 a7 a8 a9) = (a1 + gL a0 a8 a9 + a3, a2 + gH a0 a8 a9 + a4) := by
  refine flat_val (E := fun r => r = (a1 + gL a0 a8 a9 + a3, a2 + gH a0 a8 a9 + a4)) (fun _ => rfl) ?_
  show DD.sat _ _ (rofD0 a0 a1 a2 a3 a4 a5 a6 a7 a8 a9)
  unfold rofD0
  simp only [DD.sat]
  rw [arSub (a := 0) (b := a9) (by omega), arSub (a := 0) (b := a8) (by omega), arAdd (a := a1) (b := 0 - a9) (by omega), arAdd (a := a2) (b := 0 - a8) (by omega), arAdd (b := a3) (by omega), arAdd (b := a4) (by omega), arAdd (a := a1) (b := a8) (by omega), arAdd (a := a2) (b := a9) (by omega), arAdd (b := a3) (by omega), arAdd (b := a4) (by omega)]
  refine ⟨?_, ?_⟩
  · rintro rfl
    show _ = (a1 + -a9 + a3, a2 + -a8 + a4)
    simp only [Prod.mk.injEq]; omega
  · rintro rfl
    rfl
end
section
variable {a0 : Bool} {a1 a2 a3 a4 : Int} {a5 : Nat} {a6 a7 : Nat → Int} {a8 : Nat} {a9 a10 a11 a12 : Nat → Int} {a13 a14 : Int}
theorem rdt_val (h : JobOk a1 a2 a3 a4 a5 a6 a7 a8 a9 a10 a11 a12) (h0 : 0 ≤ a13) (h1 : a13 ≤ a14) (h2 : a14 ≤ PS a9 a8) : AF.fin (rdtA a0 a1 a2 a3 a4 a5 a6 a7 a8 a9 a10 a11 a12 a13 a14) = true ∧ AF.val (rdtA a0 a1 a2 a3 a4 a5 a6 a7 a8 a9 a10 a11 a12 a13 a14) = (LoM (-1152921504606846976) (tlP a0 a1 a3 a6 a7 a10 a9 a11 a8 a13) (a14 - a13).toNat, HiM 1152921504606846976 (thP a0 a2 a4 a6 a7 a10 a9 a12 a8 a13) (a14 - a13).toNat) := by
  refine AF.val_sat (E := fun v => v = (LoM (-1152921504606846976) (tlP a0 a1 a3 a6 a7 a10 a9 a11 a8 a13) (a14 - a13).toNat, HiM 1152921504606846976 (thP a0 a2 a4 a6 a7 a10 a9 a12 a8 a13) (a14 - a13).toNat))
    (Inv := fun b => match b with | .n0 => True | .n1 p0 p1 p2 p3 p4 => a13 ≤ p0 ∧ p0 ≤ a14 ∧ p1 = LoM (-1152921504606846976) (tlP a0 a1 a3 a6 a7 a10 a9 a11 a8 a13) (p0 - a13).toNat ∧ p2 = HiM 1152921504606846976 (thP a0 a2 a4 a6 a7 a10 a9 a12 a8 a13) (p0 - a13).toNat ∧ p3 = (WSum (gW a6 a10 a9 a8) a13 (p0 - a13).toNat) ∧ p4 = (WSum (gW a7 a10 a9 a8) a13 (p0 - a13).toNat))
    (fun b => match b with | .n0 => (a14 - a13).toNat + 1 | .n1 p0 p1 p2 p3 p4 => (a14 - p0).toNat) (fun _ => rfl) (fun a hI => ?_) ?_
  · have step : ∀ x, a13 ≤ x → x < a14 → ∀ y, y = x + 1 → ((WSum (gW a6 a10 a9 a8) a13 (y - a13).toNat) = (WSum (gW a6 a10 a9 a8) a13 (x - a13).toNat) + gW a6 a10 a9 a8 x ∧ (WSum (gW a7 a10 a9 a8) a13 (y - a13).toNat) = (WSum (gW a7 a10 a9 a8) a13 (x - a13).toNat) + gW a7 a10 a9 a8 x) ∧
        LoM (-1152921504606846976) (tlP a0 a1 a3 a6 a7 a10 a9 a11 a8 a13) (y - a13).toNat = max (LoM (-1152921504606846976) (tlP a0 a1 a3 a6 a7 a10 a9 a11 a8 a13) (x - a13).toNat) (a11 (ordK a9 a8 x) - a1 - gL a0 (WSum (gW a6 a10 a9 a8) a13 (x - a13).toNat) (WSum (gW a7 a10 a9 a8) a13 (x - a13).toNat) - a3) ∧ HiM 1152921504606846976 (thP a0 a2 a4 a6 a7 a10 a9 a12 a8 a13) (y - a13).toNat = min (HiM 1152921504606846976 (thP a0 a2 a4 a6 a7 a10 a9 a12 a8 a13) (x - a13).toNat) (a12 (ordK a9 a8 x) - a2 - gH a0 (WSum (gW a6 a10 a9 a8) a13 (x - a13).toNat) (WSum (gW a7 a10 a9 a8) a13 (x - a13).toNat) - a4) := fun x g0 g1 y hy => by
      have e : a13 + ((x - a13).toNat : Nat) = x := by omega
      have e2 : (tlP a0 a1 a3 a6 a7 a10 a9 a11 a8 a13) (x - a13).toNat = a11 (ordK a9 a8 x) - a1 - gL a0 (WSum (gW a6 a10 a9 a8) a13 (x - a13).toNat) (WSum (gW a7 a10 a9 a8) a13 (x - a13).toNat) - a3 := by unfold tlP; rw [e]
      have e3 : (thP a0 a2 a4 a6 a7 a10 a9 a12 a8 a13) (x - a13).toNat = a12 (ordK a9 a8 x) - a2 - gH a0 (WSum (gW a6 a10 a9 a8) a13 (x - a13).toNat) (WSum (gW a7 a10 a9 a8) a13 (x - a13).toNat) - a4 := by unfold thP; rw [e]
      rw [show (y - a13).toNat = (x - a13).toNat + 1 by omega, WSum, WSum, e, LoM, HiM, e2, e3]
      exact ⟨⟨rfl, rfl⟩, rfl, rfl⟩
    cases a with
    | n0 =>
      show DD.sat _ _ (rdtD a0 a1 a2 a3 a4 a5 a6 a7 a8 a9 a10 a11 a12 a13 a14 .n0)
      unfold rdtD
      simp only [DD.sat, Nat.zero_add, cmLss, cmLssF, decide_eq_true_eq]
      refine ⟨fun hp => ?_, fun hp => ?_⟩
      · have z1 : (WSum (gW a6 a10 a9 a8) a13 (a13 - a13).toNat) = 0 := by rw [show (a13 - a13).toNat = 0 by omega]; rfl
        have z2 : (WSum (gW a7 a10 a9 a8) a13 (a13 - a13).toNat) = 0 := by rw [show (a13 - a13).toNat = 0 by omega]; rfl
        have z3 : LoM (-1152921504606846976) (tlP a0 a1 a3 a6 a7 a10 a9 a11 a8 a13) (a13 - a13).toNat = -1152921504606846976 := by rw [show (a13 - a13).toNat = 0 by omega]; rfl
        have z4 : HiM 1152921504606846976 (thP a0 a2 a4 a6 a7 a10 a9 a12 a8 a13) (a13 - a13).toNat = 1152921504606846976 := by rw [show (a13 - a13).toNat = 0 by omega]; rfl
        have o := h.rdo (x := a13) (by omega) (by omega)
        have t := h.at' (x := a13) (by omega) (by omega)
        have o2 : AF.val (rdoA a8 (fun i => a9 i) (fun i => a10 i) (fun i => a11 i) (fun i => a12 i) a13) = _ := o.2
        have o3 : AF.val (rdoF { i := [] ++ [a13], b := [], t := [] ++ [tabOf a8 fun i => [CV.int IntKind.i64 (IE.x (a9 i)), CV.int IntKind.i64 (IE.x (a10 i)), CV.int IntKind.i64 (IE.x (a11 i)), CV.int IntKind.i64 (IE.x (a12 i))]] }) = _ := o.2
        have b := h.wsum (f := a13) (j := (a13 - a13).toNat) h0 (by omega)
        obtain ⟨_, _, s1, s2⟩ := h.tool
        unfold VOk at s1 s2
        have f1 : AF.fin (rofA a0 a1 a2 a3 a4 a5 a6 a7 0 0) = true ∧ _ := rof_ok s1 s2 (by omega) (by omega)
        have f2 : AF.val (rofA a0 a1 a2 a3 a4 a5 (fun i => a6 i) (fun i => a7 i) 0 0) = _ := f1.2
        simp only [o2, o3, f2]
        refine ⟨Nat.le_refl _, shape_ok fun i _ => rfl, o.1, Nat.le_refl _, shape_ok fun i _ => rfl, f1.1, t.2.1.1, t.2.1.2, by omega, ?_⟩
        have s := step a13 (by omega) hp _ rfl
        have gl : -40000000000 ≤ gL a0 0 0 ∧ gL a0 0 0 ≤ 40000000000 := by unfold gL; cases a0 <;> simp only [cond_true, cond_false] <;> omega
        have gh : -40000000000 ≤ gH a0 0 0 ∧ gH a0 0 0 ≤ 40000000000 := by unfold gH; cases a0 <;> simp only [cond_true, cond_false] <;> omega
        rw [z1, z2, z3, z4] at s
        unfold gW at s t
        rw [arMx, arMn, arSub (a := a11 _) (by omega), arSub (a := a12 _) (by omega), arAdd (a := a13) (by omega), arAdd (a := 0) (by omega), arAdd (a := 0) (by omega)]
        refine ⟨⟨by omega, by omega, ?_, ?_, ?_, ?_⟩, by omega⟩
        · rw [s.2.1]; omega
        · rw [s.2.2]; omega
        · exact s.1.1.symm
        · exact s.1.2.symm
      · rw [show (a14 - a13).toNat = 0 by omega]; rfl
    | n1 p0 p1 p2 p3 p4 =>
      obtain ⟨g0, g1, g2, g3, g4, g5⟩ := hI
      show DD.sat _ _ (rdtD a0 a1 a2 a3 a4 a5 a6 a7 a8 a9 a10 a11 a12 a13 a14 (.n1 p0 p1 p2 p3 p4))
      unfold rdtD
      simp only [DD.sat, Nat.zero_add, cmLss, cmLssF, decide_eq_true_eq]
      refine ⟨fun hp => ?_, fun hp => ?_⟩
      · have b0 := h.wsum (f := a13) (j := (p0 - a13).toNat) h0 (by omega)
        rw [← g4, ← g5] at b0
        have o := h.rdo (x := p0) (by omega) (by omega)
        have t := h.at' (x := p0) (by omega) (by omega)
        have o2 : AF.val (rdoA a8 (fun i => a9 i) (fun i => a10 i) (fun i => a11 i) (fun i => a12 i) p0) = _ := o.2
        have o3 : AF.val (rdoF { i := [] ++ [p0], b := [], t := [] ++ [tabOf a8 fun i => [CV.int IntKind.i64 (IE.x (a9 i)), CV.int IntKind.i64 (IE.x (a10 i)), CV.int IntKind.i64 (IE.x (a11 i)), CV.int IntKind.i64 (IE.x (a12 i))]] }) = _ := o.2
        have b := h.wsum (f := a13) (j := (p0 - a13).toNat) h0 (by omega)
        obtain ⟨_, _, s1, s2⟩ := h.tool
        unfold VOk at s1 s2
        have f1 : AF.fin (rofA a0 a1 a2 a3 a4 a5 a6 a7 p3 p4) = true ∧ _ := rof_ok s1 s2 (by omega) (by omega)
        have f2 : AF.val (rofA a0 a1 a2 a3 a4 a5 (fun i => a6 i) (fun i => a7 i) p3 p4) = _ := f1.2
        simp only [o2, o3, f2]
        refine ⟨Nat.le_refl _, shape_ok fun i _ => rfl, o.1, Nat.le_refl _, shape_ok fun i _ => rfl, f1.1, t.2.1.1, t.2.1.2, by omega, ?_⟩
        have s := step p0 (by omega) hp _ rfl
        have gl : -40000000000 ≤ gL a0 p3 p4 ∧ gL a0 p3 p4 ≤ 40000000000 := by unfold gL; cases a0 <;> simp only [cond_true, cond_false] <;> omega
        have gh : -40000000000 ≤ gH a0 p3 p4 ∧ gH a0 p3 p4 ≤ 40000000000 := by unfold gH; cases a0 <;> simp only [cond_true, cond_false] <;> omega
        rw [← g2, ← g3, ← g4, ← g5] at s
        unfold gW at s t
        rw [arMx, arMn, arSub (a := a11 _) (by omega), arSub (a := a12 _) (by omega), arAdd (a := p0) (by omega), arAdd (a := p3) (by omega), arAdd (a := p4) (by omega)]
        refine ⟨⟨by omega, by omega, ?_, ?_, ?_, ?_⟩, by omega⟩
        · rw [s.2.1]; omega
        · rw [s.2.2]; omega
        · exact s.1.1.symm
        · exact s.1.2.symm
      · rw [g2, g3, show p0 = a14 by omega]
  · show True
    trivial
end
end Go.Proofs.Ythagjhadjpangaa.Cx

/- Package die: a part of an order, in plain Lean: what wears and narrows by the same for each piece. -/
namespace Go.Proofs.Ythagjhadjpangaa.Cx
set_option linter.unusedVariables false
set_option linter.unusedSimpArgs false
set_option maxHeartbeats 4000000
open Go Go.RowKit
/-- How many of the pieces from f to t lie before x. -/
def cN (f t x : Int) : Nat := (min x t - f).toNat
theorem part_split {f t q0 q1 : Int} (hf : f ≤ t) (h : q0 < q1) : (min q1 t - max q0 f > 0 → max q0 f = f + cN f t q0 ∧ (cN f t q1 : Int) = cN f t q0 + (min q1 t - max q0 f) ∧ min q1 t = f + cN f t q0 + (min q1 t - max q0 f)) ∧ (min q1 t - max q0 f ≤ 0 → cN f t q1 = cN f t q0) := by
  unfold cN; omega
section
variable {a0 : Bool} {a1 a2 a3 a4 : Int} {a5 : Nat} {a6 a7 : Nat → Int} {a8 : Nat} {a9 a10 a11 a12 : Nat → Int} {f : Int} {j n k : Nat}
theorem gL_lin {b : Bool} {w1 w2 c1 c2 i : Int} : gL b (w1 + i * c1) (w2 + i * c2) = gL b w1 w2 + i * gL b c1 c2 := by
  unfold gL
  cases b <;> simp only [cond_true, cond_false]
  rw [Int.mul_neg]; omega
theorem gH_lin {b : Bool} {w1 w2 c1 c2 i : Int} : gH b (w1 + i * c1) (w2 + i * c2) = gH b w1 w2 + i * gH b c1 c2 := by
  unfold gH
  cases b <;> simp only [cond_true, cond_false]
  rw [Int.mul_neg]; omega
/-- All of n pieces, behind j others, are of the order k. -/
theorem part_ord (h : JobOk a1 a2 a3 a4 a5 a6 a7 a8 a9 a10 a11 a12) (hk : k < a8) (h1 : PS a9 k ≤ f + j) (h2 : f + j + n ≤ PS a9 (k + 1)) : ∀ i : Nat, i < n → ordK a9 a8 (f + (j + i : Nat)) = k := fun i hi => ordK_uniq h.pc hk (by omega) (by omega)
theorem part_w (w : Nat → Int) (hk : ∀ i : Nat, i < n → ordK a9 a8 (f + (j + i : Nat)) = k) : ∀ i : Nat, i ≤ n → WSum (gW w a10 a9 a8) f (j + i) = WSum (gW w a10 a9 a8) f j + i * w (a10 k).toNat := fun i hi => WSum_const i (fun x hx => by unfold gW; rw [hk x (by omega)])
theorem part_tl (hk : ∀ i : Nat, i < n → ordK a9 a8 (f + (j + i : Nat)) = k) : ∀ i : Nat, i < n → tlP a0 a1 a3 a6 a7 a10 a9 a11 a8 f (j + i) = (a11 k - a1 - gL a0 (WSum (gW a6 a10 a9 a8) f j) (WSum (gW a7 a10 a9 a8) f j) - a3) + i * (-(gL a0 (a6 (a10 k).toNat) (a7 (a10 k).toNat))) := fun i hi => by
  unfold tlP
  rw [hk i hi, part_w a6 hk i (by omega), part_w a7 hk i (by omega), gL_lin, Int.mul_neg]
  omega
theorem part_th (hk : ∀ i : Nat, i < n → ordK a9 a8 (f + (j + i : Nat)) = k) : ∀ i : Nat, i < n → thP a0 a2 a4 a6 a7 a10 a9 a12 a8 f (j + i) = (a12 k - a2 - gH a0 (WSum (gW a6 a10 a9 a8) f j) (WSum (gW a7 a10 a9 a8) f j) - a4) + i * (-(gH a0 (a6 (a10 k).toNat) (a7 (a10 k).toNat))) := fun i hi => by
  unfold thP
  rw [hk i hi, part_w a6 hk i (by omega), part_w a7 hk i (by omega), gH_lin, Int.mul_neg]
  omega
/-- What is sure of the first h + 1 pieces of a part, in Lost's words. -/
theorem part_lo (t : Int) (hk : ∀ i : Nat, i < n → ordK a9 a8 (f + (j + i : Nat)) = k) {h : Nat} (hh : h < n) : LoM t (tlP a0 a1 a3 a6 a7 a10 a9 a11 a8 f) (j + (h + 1)) = max (max (LoM t (tlP a0 a1 a3 a6 a7 a10 a9 a11 a8 f) j) (a11 k - a1 - gL a0 (WSum (gW a6 a10 a9 a8) f j) (WSum (gW a7 a10 a9 a8) f j) - a3)) (a11 k - a1 - gL a0 (WSum (gW a6 a10 a9 a8) f j + h * a6 (a10 k).toNat) (WSum (gW a7 a10 a9 a8) f j + h * a7 (a10 k).toNat) - a3) := by
  rw [LoM_lin h (fun i hi => part_tl hk i (by omega)), gL_lin, Int.mul_neg]
  congr 1
  omega
theorem part_hi (t : Int) (hk : ∀ i : Nat, i < n → ordK a9 a8 (f + (j + i : Nat)) = k) {h : Nat} (hh : h < n) : HiM t (thP a0 a2 a4 a6 a7 a10 a9 a12 a8 f) (j + (h + 1)) = min (min (HiM t (thP a0 a2 a4 a6 a7 a10 a9 a12 a8 f) j) (a12 k - a2 - gH a0 (WSum (gW a6 a10 a9 a8) f j) (WSum (gW a7 a10 a9 a8) f j) - a4)) (a12 k - a2 - gH a0 (WSum (gW a6 a10 a9 a8) f j + h * a6 (a10 k).toNat) (WSum (gW a7 a10 a9 a8) f j + h * a7 (a10 k).toNat) - a4) := by
  rw [HiM_lin h (fun i hi => part_th hk i (by omega)), gH_lin, Int.mul_neg]
  congr 1
  omega
theorem part_lost {t1 t2 : Int} (hk : ∀ i : Nat, i < n → ordK a9 a8 (f + (j + i : Nat)) = k) {h : Nat} (hh : h < n) :
    Lost (LoM t1 (tlP a0 a1 a3 a6 a7 a10 a9 a11 a8 f) j) (HiM t2 (thP a0 a2 a4 a6 a7 a10 a9 a12 a8 f) j) a0 a1 a2 a3 a4 (a11 k) (a12 k) (a6 (a10 k).toNat) (a7 (a10 k).toNat) (WSum (gW a6 a10 a9 a8) f j) (WSum (gW a7 a10 a9 a8) f j) h ↔
      LoM t1 (tlP a0 a1 a3 a6 a7 a10 a9 a11 a8 f) (j + (h + 1)) > HiM t2 (thP a0 a2 a4 a6 a7 a10 a9 a12 a8 f) (j + (h + 1)) := by
  rw [part_lo t1 hk hh, part_hi t2 hk hh]
  exact Iff.rfl
end
end Go.Proofs.Ythagjhadjpangaa.Cx

/- Package die: (shop).reach in general. -/
namespace Go.Proofs.Ythagjhadjpangaa.Cx
set_option linter.unusedVariables false
set_option linter.unusedSimpArgs false
set_option maxRecDepth 100000
set_option maxHeartbeats 4000000
open Go Go.RowKit
/-- What reach yields: as far as targets are left. -/
def RchG (a0 : Bool) (a1 a2 a3 a4 : Int) (a5 : Nat) (a6 a7 : Nat → Int) (a8 : Nat) (a9 a10 a11 a12 : Nat → Int) (a13 a14 a15 a16 a17 : Int) (x y z : Int) : Prop :=
  ∃ J : Nat, (J : Int) ≤ a17 - a16 ∧ ((J : Int) < a17 - a16 → LoM a14 (tlP a0 a1 a3 a6 a7 a10 a9 a11 a8 a16) (J + 1) > HiM a15 (thP a0 a2 a4 a6 a7 a10 a9 a12 a8 a16) (J + 1)) ∧ (0 < J → LoM a14 (tlP a0 a1 a3 a6 a7 a10 a9 a11 a8 a16) (J) ≤ HiM a15 (thP a0 a2 a4 a6 a7 a10 a9 a12 a8 a16) (J)) ∧ x = LoM a14 (tlP a0 a1 a3 a6 a7 a10 a9 a11 a8 a16) (J) ∧ y = HiM a15 (thP a0 a2 a4 a6 a7 a10 a9 a12 a8 a16) (J) ∧ z = a16 + J
def RchS (a0 : Bool) (a1 a2 a3 a4 : Int) (a5 : Nat) (a6 a7 : Nat → Int) (a8 : Nat) (a9 a10 a11 a12 : Nat → Int) (a13 a14 a15 a16 a17 : Int) : drcs0R → Prop
  | .r0 x y _ _ => RchG a0 a1 a2 a3 a4 a5 a6 a7 a8 a9 a10 a11 a12 a13 a14 a15 a16 a17 x y a17
  | .r1 x y z _ _ => RchG a0 a1 a2 a3 a4 a5 a6 a7 a8 a9 a10 a11 a12 a13 a14 a15 a16 a17 x y z
section
variable {a0 : Bool} {a1 a2 a3 a4 : Int} {a5 : Nat} {a6 a7 : Nat → Int} {a8 : Nat} {a9 a10 a11 a12 : Nat → Int} {a13 a14 a15 a16 a17 : Int}
theorem drs_gen (h : JobOk a1 a2 a3 a4 a5 a6 a7 a8 a9 a10 a11 a12) (h0 : 0 ≤ a16) (h1 : a16 ≤ a17) (h2 : a17 ≤ PS a9 a8) : ∃ n v, AF.run (drcs0A a0 a1 a2 a3 a4 a5 a6 a7 a8 a9 a10 a11 a12 a13 a14 a15 a16 a17) n = some v ∧ RchS a0 a1 a2 a3 a4 a5 a6 a7 a8 a9 a10 a11 a12 a13 a14 a15 a16 a17 v := by
  obtain ⟨_, tw, s1, s2⟩ := h.tool
  unfold VOk at s1 s2
  have few := h.few
  have tot := (h.wsum (f := a16) (j := 0) h0 (by omega)).2.2
  refine AF.run_sat (E := RchS a0 a1 a2 a3 a4 a5 a6 a7 a8 a9 a10 a11 a12 a13 a14 a15 a16 a17) (Inv := fun b => match b with | .n0 q0 q1 q2 q3 q4 q5 => 0 ≤ q1 ∧ q1 ≤ a8 ∧ q0 = PS a9 q1.toNat ∧ q2 = LoM a14 (tlP a0 a1 a3 a6 a7 a10 a9 a11 a8 a16) (cN a16 a17 q0) ∧ q3 = HiM a15 (thP a0 a2 a4 a6 a7 a10 a9 a12 a8 a16) (cN a16 a17 q0) ∧ q4 = WSum (gW a6 a10 a9 a8) a16 (cN a16 a17 q0) ∧ q5 = WSum (gW a7 a10 a9 a8) a16 (cN a16 a17 q0) ∧ (0 < cN a16 a17 q0 → q2 ≤ q3))
    (fun b => match b with | .n0 q0 q1 q2 q3 q4 q5 => (a8 - q1).toNat) (fun b => rfl) (fun a hI => ?_) ?_
  · cases a with
    | n0 q0 q1 q2 q3 q4 q5 =>
      obtain ⟨g0, g1, e0, e2, e3, e4, e5, e6⟩ := hI
      have cb : (cN a16 a17 q0 : Int) ≤ a17 - a16 := by unfold cN; omega
      have b := h.wsum (f := a16) (j := cN a16 a17 q0) h0 (by omega)
      rw [← e4, ← e5] at b
      show DD.sat _ _ (drcs0D a0 a1 a2 a3 a4 a5 a6 a7 a8 a9 a10 a11 a12 a13 a14 a15 a16 a17 (.n0 q0 q1 q2 q3 q4 q5))
      unfold drcs0D
      have r0 := PS_rng h.pc q1.toNat (by omega)
      have ea : q1 < a8 → Ar.run .add .i64 q1 1 = q1 + 1 := fun h => arAdd (by omega)
      by_cases hq : q1 < a8
      · have pk := h.pc q1.toNat (by omega)
        obtain ⟨⟨_, _, z1, z2, z3⟩, st⟩ := h.ord q1.toNat (by omega)
        have nx : PS a9 (q1 + 1).toNat = q0 + a9 q1.toNat := by rw [show (q1 + 1).toNat = q1.toNat + 1 by omega, PS, e0]
        have nr := PS_mono h.pc (j := q1.toNat + 1) a8 (by omega) (Nat.le_refl _)
        rw [show q1.toNat + 1 = (q1 + 1).toNat by omega, nx] at nr
        obtain ⟨ps1, ps2⟩ := part_split (f := a16) (t := a17) (q0 := q0) (q1 := q0 + a9 q1.toNat) h1 (by omega)
        have f1 : Ar.run .add .i64 q0 (a9 q1.toNat) = q0 + a9 q1.toNat := arAdd (by omega)
        have f2 : Ar.run .sub .i64 (min (q0 + a9 q1.toNat) a17) (max q0 a16) = min (q0 + a9 q1.toNat) a17 - max q0 a16 := arSub (by omega)
        simp only [DD.sat, Nat.zero_add, cmLss, cmLssF, cmGtr, cmGtrF, decide_eq_true_eq, f1, arMn, arMx, f2, ea hq]
        refine ⟨fun _ => ⟨g0, hq, by omega, fun hn => ?_, fun hn => ?_⟩, fun hx => by omega⟩
        · obtain ⟨p1, p2, p3⟩ := ps1 hn
          have hnb : min (q0 + a9 q1.toNat) a17 - max q0 a16 ≤ 1000000 := by omega
          obtain ⟨n, hnn⟩ : ∃ n : Nat, (n : Int) = min (q0 + a9 q1.toNat) a17 - max q0 a16 := ⟨(min (q0 + a9 q1.toNat) a17 - max q0 a16).toNat, by omega⟩
          have hk := part_ord (f := a16) (j := cN a16 a17 q0) (n := n) h (k := q1.toNat) (by omega) (by omega) (by rw [show q1.toNat + 1 = (q1 + 1).toNat by omega, nx]; omega)
          rw [← hnn] at p2 p3 hn ⊢
          obtain ⟨sf, r, sr, r1, r2, r3, r4⟩ := dse_val (a0 := n) (a1 := q2) (a2 := q3) (a3 := a0) (a4 := a1) (a5 := a2) (a6 := a3) (a7 := a4) (a8 := a5) (a9 := a6) (a10 := a7) (a11 := a8) (a12 := a9) (a13 := a10) (a14 := a11) (a15 := a12) (a16 := a13) (a17 := a9 q1.toNat) (a18 := a10 q1.toNat) (a19 := a11 q1.toNat) (a20 := a12 q1.toNat) (a21 := max q0 a16) (a22 := min (q0 + a9 q1.toNat) a17) (a23 := q4) (a24 := q5) (by omega) tw st (by unfold BB; omega) (by unfold BB; omega) (by unfold BB; omega) (by unfold BB; omega) (by unfold BB; omega) (by unfold BB; omega) (by omega) (by omega)
          have sr' : AF.val (dseA n q2 q3 a0 a1 a2 a3 a4 a5 (fun i => a6 i) (fun i => a7 i) a8 (fun i => a9 i) (fun i => a10 i) (fun i => a11 i) (fun i => a12 i) a13 (a9 q1.toNat) (a10 q1.toNat) (a11 q1.toNat) (a12 q1.toNat) (max q0 a16) (min (q0 + a9 q1.toNat) a17) q4 q5) = r := sr
          simp only [sr']
          have t1 : AF.fin (dtgA a0 a1 a2 a3 a4 a5 a6 a7 a8 a9 a10 a11 a12 a13 (a11 q1.toNat) (a12 q1.toNat) q4 q5) = true ∧ _ := dtg_val (by unfold BB; omega) (by unfold BB; omega) (by unfold BB; omega) (by unfold BB; omega) (by unfold BB; omega) (by unfold BB; omega) (by unfold BB; omega) (by unfold BB; omega)
          have t2 : AF.fin (dwoA a0 a1 a2 a3 a4 a5 a6 a7 a8 a9 a10 a11 a12 a13 q4 q5 (a10 q1.toNat) r) = true ∧ _ := dwo_val tw st (by omega) (by omega) (by omega)
          have t1v : AF.val (dtgA a0 a1 a2 a3 a4 a5 (fun i => a6 i) (fun i => a7 i) a8 (fun i => a9 i) (fun i => a10 i) (fun i => a11 i) (fun i => a12 i) a13 (a11 q1.toNat) (a12 q1.toNat) q4 q5) = _ := t1.2
          have t2v : AF.val (dwoA a0 a1 a2 a3 a4 a5 (fun i => a6 i) (fun i => a7 i) a8 (fun i => a9 i) (fun i => a10 i) (fun i => a11 i) (fun i => a12 i) a13 q4 q5 (a10 q1.toNat) r) = _ := t2.2
          have jc : cN a16 a17 (q0 + a9 q1.toNat) = cN a16 a17 q0 + n := by omega
          have lost := fun (x : Nat) (hx : x < n) => part_lost (a0 := a0) (a1 := a1) (a2 := a2) (a3 := a3) (a4 := a4) (a6 := a6) (a7 := a7) (a10 := a10) (a11 := a11) (a12 := a12) (t1 := a14) (t2 := a15) hk hx
          rw [← e2, ← e3, ← e4, ← e5] at lost
          have wk : (0 ≤ a6 (a10 q1.toNat).toNat ∧ a6 (a10 q1.toNat).toNat ≤ a7 (a10 q1.toNat).toNat ∧ a7 (a10 q1.toNat).toNat ≤ 100000) := tw _ (by omega)
          refine ⟨Nat.le_refl _, shape_ok fun i _ => rfl, Nat.le_refl _, shape_ok fun i _ => rfl, sf, fun hr => ?_, fun hr => ?_⟩
          · obtain ⟨x, hx⟩ : ∃ x : Nat, (x : Int) = r - 1 := ⟨(r - 1).toNat, by omega⟩
            have t3 : AF.fin (dwoA a0 a1 a2 a3 a4 a5 a6 a7 a8 a9 a10 a11 a12 a13 q4 q5 (a10 q1.toNat) (r - 1)) = true ∧ _ := dwo_val tw st (by omega) (by omega) (by omega)
            have m1 := wear_bd (n := r - 1) (w := a6 (a10 q1.toNat).toNat) (by omega) (by omega)
            have m2 := wear_bd (n := r - 1) (w := a7 (a10 q1.toNat).toNat) (by omega) (by omega)
            have t4 : AF.fin (dtgA a0 a1 a2 a3 a4 a5 a6 a7 a8 a9 a10 a11 a12 a13 (a11 q1.toNat) (a12 q1.toNat) (q4 + (r - 1) * a6 (a10 q1.toNat).toNat) (q5 + (r - 1) * a7 (a10 q1.toNat).toNat)) = true ∧ _ := dtg_val (by unfold BB; omega) (by unfold BB; omega) (by unfold BB; omega) (by unfold BB; omega) (by unfold BB; omega) (by unfold BB; omega) (by unfold BB; omega) (by unfold BB; omega)
            have e7 : Ar.run .sub .i64 r 1 = r - 1 := arSub (by omega)
            have t3v : AF.val (dwoA a0 a1 a2 a3 a4 a5 (fun i => a6 i) (fun i => a7 i) a8 (fun i => a9 i) (fun i => a10 i) (fun i => a11 i) (fun i => a12 i) a13 q4 q5 (a10 q1.toNat) (r - 1)) = _ := t3.2
            have t4v : AF.val (dtgA a0 a1 a2 a3 a4 a5 (fun i => a6 i) (fun i => a7 i) a8 (fun i => a9 i) (fun i => a10 i) (fun i => a11 i) (fun i => a12 i) a13 (a11 q1.toNat) (a12 q1.toNat) (q4 + (r - 1) * a6 (a10 q1.toNat).toNat) (q5 + (r - 1) * a7 (a10 q1.toNat).toNat)) = _ := t4.2
            have lox := part_lo (a0 := a0) (a1 := a1) (a3 := a3) (a6 := a6) (a7 := a7) (a10 := a10) (a11 := a11) a14 hk (h := x) (by omega)
            have hix := part_hi (a0 := a0) (a2 := a2) (a4 := a4) (a6 := a6) (a7 := a7) (a10 := a10) (a12 := a12) a15 hk (h := x) (by omega)
            have nl := fun hl => r3 hr ((lost x (by omega)).2 hl |> fun q => by rw [← hx]; exact q)
            rw [← e2, ← e4, ← e5, hx] at lox
            rw [← e3, ← e4, ← e5, hx] at hix
            have nl2 := Int.not_lt.1 nl
            simp only [e7, t1v, t3v, t4v, t2v]
            rw [← lox, ← hix]
            refine ⟨Nat.le_refl _, shape_ok fun i _ => rfl, Nat.le_refl _, shape_ok fun i _ => rfl, t1.1, Nat.le_refl _, shape_ok fun i _ => rfl, Nat.le_refl _, shape_ok fun i _ => rfl, t3.1, Nat.le_refl _, shape_ok fun i _ => rfl, Nat.le_refl _, shape_ok fun i _ => rfl, t4.1, fun hrn => ?_, fun hrn => ⟨Nat.le_refl _, shape_ok fun i _ => rfl, Nat.le_refl _, shape_ok fun i _ => rfl, t2.1, ?_⟩⟩
            · refine ⟨cN a16 a17 q0 + (x + 1), by omega, fun _ => ?_, fun _ => nl2, rfl, rfl, ?_⟩
              · have := (lost (x + 1) (by omega)).1 (by
                  rw [show ((x + 1 : Nat) : Int) = r by omega]; exact r4 hrn)
                rw [show cN a16 a17 q0 + (x + 1) + 1 = cN a16 a17 q0 + (x + 1 + 1) by omega]
                exact this
              · rw [arAdd (by omega)]; omega
            · obtain rfl : r = n := by omega
              have xn : x + 1 = n := by omega
              rw [jc, ← xn]
              have w1 := part_w (a10 := a10) a6 hk n (Nat.le_refl _)
              have w2 := part_w (a10 := a10) a7 hk n (Nat.le_refl _)
              refine ⟨⟨by omega, by omega, nx.symm, rfl, rfl, ?_, ?_, fun _ => nl2⟩, by omega⟩
              · rw [xn, w1, ← e4]
              · rw [xn, w2, ← e5]
          · obtain rfl : r = 0 := by omega
            refine ⟨fun hrn => ⟨cN a16 a17 q0, by omega, fun _ => (lost 0 (by omega)).1 (r4 hrn), fun hj => by rw [← e2, ← e3]; exact e6 hj, e2, e3, ?_⟩, fun hrn => by omega⟩
            rw [arAdd (by omega)]; omega
        · rw [ps2 hn]
          exact ⟨⟨by omega, by omega, nx.symm, e2, e3, e4, e5, e6⟩, by omega⟩
      · simp only [DD.sat, cmLss, cmLssF]
        refine ⟨fun hx => by omega, fun _ => ⟨cN a16 a17 q0, cb, fun hx => ?_, fun hj => by rw [← e2, ← e3]; exact e6 hj, e2, e3, ?_⟩⟩
        · have : q1.toNat = a8 := by omega
          rw [this] at e0
          unfold cN at hx; omega
        · have : q1.toNat = a8 := by omega
          rw [this] at e0
          unfold cN; omega
  · have z : cN a16 a17 0 = 0 := by unfold cN; omega
    show 0 ≤ (0 : Int) ∧ (0 : Int) ≤ a8 ∧ _ ∧ _ ∧ _ ∧ _ ∧ _ ∧ _
    rw [z]
    exact ⟨by omega, by omega, rfl, rfl, rfl, rfl, rfl, fun h => by omega⟩
end
end Go.Proofs.Ythagjhadjpangaa.Cx

/- acme/die.Wear as an automaton. Made by tools/cxauto.py. -/
namespace Go.Proofs.Ythagjhadjpangaa.Cx
set_option linter.unusedVariables false
set_option linter.unusedSimpArgs false
set_option maxRecDepth 100000
open Go Go.Proofs Go.RowKit
abbrev dweR := Int × Int × Int
instance : Inhabited dweR := ⟨(0, 0, 0)⟩
end Go.Proofs.Ythagjhadjpangaa.Cx

/- acme/die.Targets as an automaton. Made by tools/cxauto.py. -/
namespace Go.Proofs.Ythagjhadjpangaa.Cx
set_option linter.unusedVariables false
set_option linter.unusedSimpArgs false
set_option maxRecDepth 100000
open Go Go.Proofs Go.RowKit
abbrev dtaR := Int × Int × Int
instance : Inhabited dtaR := ⟨(0, 0, 0)⟩
end Go.Proofs.Ythagjhadjpangaa.Cx

/- acme/acmelaw07.unchanged as an automaton. Made by tools/cxauto.py. -/
namespace Go.Proofs.Ythagjhadjpangaa.Cx
set_option linter.unusedVariables false
set_option linter.unusedSimpArgs false
set_option maxRecDepth 100000
open Go Go.Proofs Go.RowKit
abbrev duoR := Bool
instance : Inhabited duoR := ⟨false⟩
end Go.Proofs.Ythagjhadjpangaa.Cx

/- Package die: reach, Wear, Targets, Reach; tools and orders that are as they were. -/
namespace Go.Proofs.Ythagjhadjpangaa.Cx
set_option linter.unusedVariables false
set_option linter.unusedSimpArgs false
set_option maxRecDepth 100000
set_option maxHeartbeats 4000000
open Go Go.RowKit
section
variable {a0 : Bool} {a1 a2 a3 a4 : Int} {a5 : Nat} {a6 a7 : Nat → Int} {a8 : Nat} {a9 a10 a11 a12 : Nat → Int} {a13 a14 a15 a16 a17 : Int}
theorem drc_gen (h : JobOk a1 a2 a3 a4 a5 a6 a7 a8 a9 a10 a11 a12) (h0 : 0 ≤ a16) (h1 : a16 ≤ a17) (h2 : a17 ≤ PS a9 a8) : AF.fin (drcA a0 a1 a2 a3 a4 a5 a6 a7 a8 a9 a10 a11 a12 a13 a14 a15 a16 a17) = true ∧ ∃ x y z, AF.val (drcA a0 a1 a2 a3 a4 a5 a6 a7 a8 a9 a10 a11 a12 a13 a14 a15 a16 a17) = (x, y, z) ∧ RchG a0 a1 a2 a3 a4 a5 a6 a7 a8 a9 a10 a11 a12 a13 a14 a15 a16 a17 x y z := by
  refine AF.val_satR (A := drcA a0 a1 a2 a3 a4 a5 a6 a7 a8 a9 a10 a11 a12 a13 a14 a15 a16 a17) (E := fun v => ∃ x y z, v = (x, y, z) ∧ RchG a0 a1 a2 a3 a4 a5 a6 a7 a8 a9 a10 a11 a12 a13 a14 a15 a16 a17 x y z) (Inv := fun _ => True) drc_mono (fun _ => 0) (fun a _ => .inr ?_) (show True from trivial)
  cases a with
  | n0 =>
    obtain ⟨n, v, hv, hE⟩ := drs_gen (a13 := a13) (a14 := a14) (a15 := a15) (a0 := a0) h h0 h1 h2
    refine ⟨_, n, drcRg0 a0 a1 a2 a3 a4 a5 a6 a7 a8 a9 a10 a11 a12 a13 a14 a15 a16 a17 v, rfl, ?_, ?_⟩
    · show Option.map _ (AF.run _ n) = _
      rw [hv]; rfl
    · cases v with
      | r0 x y _ _ => exact ⟨x, y, a17, rfl, hE⟩
      | r1 x y z _ _ => exact ⟨x, y, z, rfl, hE⟩
theorem CkS.job (h : CkS a5 a8 (ToolOk a5 a6 a7 a1 a2 a3 a4) a9 a10 a11 a12 0) : JobOk a1 a2 a3 a4 a5 a6 a7 a8 a9 a10 a11 a12 := ⟨h.ok.1, h.ok.2.2.2.1, h.ok.2.2.2.2⟩
end
end Go.Proofs.Ythagjhadjpangaa.Cx

/- Package die: bounds of targets that are wide enough. -/
namespace Go.Proofs.Ythagjhadjpangaa.Cx
set_option linter.unusedVariables false
set_option linter.unusedSimpArgs false
set_option maxRecDepth 100000
set_option maxHeartbeats 4000000
open Go Go.RowKit
section
variable {a0 : Bool} {a1 a2 a3 a4 : Int} {a5 : Nat} {a6 a7 : Nat → Int} {a8 : Nat} {a9 a10 a11 a12 : Nat → Int} {a13 a14 : Int}
theorem LoM_floor {t t' : Int} {tl : Nat → Int} (ht : t' ≤ t) : ∀ n, LoM t tl n = max t (LoM t' tl n)
  | 0 => by simp only [LoM]; omega
  | n + 1 => by rw [LoM, LoM, LoM_floor ht n]; omega
theorem HiM_ceil {t t' : Int} {th : Nat → Int} (ht : t ≤ t') : ∀ n, HiM t th n = min t (HiM t' th n)
  | 0 => by simp only [HiM]; omega
  | n + 1 => by rw [HiM, HiM, HiM_ceil ht n]; omega
/-- Bounds of targets that are wide enough do not matter. -/
theorem JobOk.lo (h : JobOk a1 a2 a3 a4 a5 a6 a7 a8 a9 a10 a11 a12) (h0 : 0 ≤ a13) (h1 : a13 < PS a9 a8) (n : Nat) : LoM (-10000000000) (tlP a0 a1 a3 a6 a7 a10 a9 a11 a8 a13) (n + 1) = LoM (-1152921504606846976) (tlP a0 a1 a3 a6 a7 a10 a9 a11 a8 a13) (n + 1) := by
  have t := (h.at' h0 h1).2.2.1
  obtain ⟨_, _, s1, s2⟩ := h.tool
  unfold VOk at s1 s2
  have e : tlP a0 a1 a3 a6 a7 a10 a9 a11 a8 a13 0 = a11 (ordK a9 a8 a13) - a1 - a3 := by
    unfold tlP gL
    simp only [WSum]
    rw [show a13 + ((0 : Nat) : Int) = a13 by omega]
    cases a0 <;> simp only [cond_true, cond_false] <;> omega
  have m := LoM_mono (t := -1152921504606846976) (tl := tlP a0 a1 a3 a6 a7 a10 a9 a11 a8 a13) (i := 1) (n + 1) (by omega)
  have m1 : LoM (-1152921504606846976) (tlP a0 a1 a3 a6 a7 a10 a9 a11 a8 a13) 1 = max (-1152921504606846976) (tlP a0 a1 a3 a6 a7 a10 a9 a11 a8 a13 0) := rfl
  rw [m1, e] at m
  rw [LoM_floor (t := -10000000000) (t' := -1152921504606846976) (by omega)]
  omega
theorem JobOk.hi (h : JobOk a1 a2 a3 a4 a5 a6 a7 a8 a9 a10 a11 a12) (h0 : 0 ≤ a13) (h1 : a13 < PS a9 a8) (n : Nat) : HiM 20000000000 (thP a0 a2 a4 a6 a7 a10 a9 a12 a8 a13) (n + 1) = HiM 1152921504606846976 (thP a0 a2 a4 a6 a7 a10 a9 a12 a8 a13) (n + 1) := by
  have t := (h.at' h0 h1).2.2.1
  obtain ⟨_, _, s1, s2⟩ := h.tool
  unfold VOk at s1 s2
  have e : thP a0 a2 a4 a6 a7 a10 a9 a12 a8 a13 0 = a12 (ordK a9 a8 a13) - a2 - a4 := by
    unfold thP gH
    simp only [WSum]
    rw [show a13 + ((0 : Nat) : Int) = a13 by omega]
    cases a0 <;> simp only [cond_true, cond_false] <;> omega
  have m := HiM_mono (t := 1152921504606846976) (th := thP a0 a2 a4 a6 a7 a10 a9 a12 a8 a13) (i := 1) (n + 1) (by omega)
  have m1 : HiM 1152921504606846976 (thP a0 a2 a4 a6 a7 a10 a9 a12 a8 a13) 1 = min 1152921504606846976 (thP a0 a2 a4 a6 a7 a10 a9 a12 a8 a13 0) := rfl
  rw [m1, e] at m
  rw [HiM_ceil (t := 20000000000) (t' := 1152921504606846976) (by omega)]
  omega
end
end Go.Proofs.Ythagjhadjpangaa.Cx

/- acme/die.Reach as an automaton. Made by tools/cxauto.py. -/
namespace Go.Proofs.Ythagjhadjpangaa.Cx
set_option linter.unusedVariables false
set_option linter.unusedSimpArgs false
set_option maxRecDepth 100000
open Go Go.Proofs Go.RowKit
abbrev draR := Int × Int
instance : Inhabited draR := ⟨(0, 0)⟩
end Go.Proofs.Ythagjhadjpangaa.Cx

/- acme/acmeref07.Reach as an automaton. Made by tools/cxauto.py. -/
namespace Go.Proofs.Ythagjhadjpangaa.Cx
set_option linter.unusedVariables false
set_option linter.unusedSimpArgs false
set_option maxRecDepth 100000
open Go Go.Proofs Go.RowKit
abbrev rdrR := Int
instance : Inhabited rdrR := ⟨0⟩
end Go.Proofs.Ythagjhadjpangaa.Cx

/- acme/die.Plan as an automaton. Made by tools/cxauto.py. -/
namespace Go.Proofs.Ythagjhadjpangaa.Cx
set_option linter.unusedVariables false
set_option linter.unusedSimpArgs false
set_option maxRecDepth 100000
open Go Go.Proofs Go.RowKit
inductive dplR where
  | r0 (p0 : Int)
  | r1 (p0 : Nat) (p1 p2 : Nat → Int)
instance : Inhabited dplR := ⟨.r0 0⟩
end Go.Proofs.Ythagjhadjpangaa.Cx

/- acme/acmeref07.Plan as an automaton. Made by tools/cxauto.py. -/
namespace Go.Proofs.Ythagjhadjpangaa.Cx
set_option linter.unusedVariables false
set_option linter.unusedSimpArgs false
set_option maxRecDepth 100000
open Go Go.Proofs Go.RowKit
inductive rdpR where
  | r0
  | r1
  | r2 (p0 : Nat) (p1 p2 : Nat → Int)
instance : Inhabited rdpR := ⟨.r0⟩
end Go.Proofs.Ythagjhadjpangaa.Cx

/- Package die: Reach and Plan, the program's and the reference's. -/
namespace Go.Proofs.Ythagjhadjpangaa.Cx
set_option linter.unusedVariables false
set_option linter.unusedSimpArgs false
set_option maxRecDepth 100000
set_option maxHeartbeats 4000000
open Go Go.RowKit
def loJ (a0 : Bool) (a1 a3 : Int) (a6 a7 : Nat → Int) (a8 : Nat) (a9 a10 a11 : Nat → Int) (f : Int) (n : Nat) : Int := LoM (-1152921504606846976) (tlP a0 a1 a3 a6 a7 a10 a9 a11 a8 f) n
def hiJ (a0 : Bool) (a2 a4 : Int) (a6 a7 : Nat → Int) (a8 : Nat) (a9 a10 a12 : Nat → Int) (f : Int) (n : Nat) : Int := HiM 1152921504606846976 (thP a0 a2 a4 a6 a7 a10 a9 a12 a8 f) n
section
variable {a0 : Bool} {a1 a2 a3 a4 : Int} {a5 : Nat} {a6 a7 : Nat → Int} {a8 : Nat} {a9 a10 a11 a12 : Nat → Int} {a13 a14 : Int}
theorem bif_lt {i k : Nat} {x y : Int} (h : i < k) : (bif Nat.blt i k then x else y) = x := by
  have : Nat.blt i k = true := by rw [Nat.blt_eq]; exact h
  rw [this]; rfl
theorem bif_ge {k : Nat} {x y : Int} : (bif Nat.blt k k then x else y) = y := by
  have : Nat.blt k k = false := by
    cases h : Nat.blt k k with
    | false => rfl
    | true =>
      rw [Nat.blt_eq] at h
      exact absurd h (Nat.lt_irrefl _)
  rw [this]; rfl
end
end Go.Proofs.Ythagjhadjpangaa.Cx

/- Package die: settings that go as far as they can make the most pieces sure, in plain Lean. -/
namespace Go.Proofs.Ythagjhadjpangaa.Cx
set_option linter.unusedVariables false
set_option linter.unusedSimpArgs false
set_option maxRecDepth 100000
set_option maxHeartbeats 4000000
open Go Go.RowKit
/-- There is a target for the pieces from f to n - 1. -/
def CanP (lo hi : Int → Nat → Int) (f n : Int) : Prop := lo f (n - f).toNat ≤ hi f (n - f).toNat
section
variable {T : Int} {lo hi : Int → Nat → Int}
end
end Go.Proofs.Ythagjhadjpangaa.Cx

/- Package die: what one setting makes sure it does also if it begins later. -/
namespace Go.Proofs.Ythagjhadjpangaa.Cx
set_option linter.unusedVariables false
set_option linter.unusedSimpArgs false
set_option maxRecDepth 100000
set_option maxHeartbeats 4000000
open Go Go.RowKit
theorem LoM_le {t x : Int} {tl : Nat → Int} : ∀ m, LoM t tl m ≤ x ↔ t ≤ x ∧ ∀ j, j < m → tl j ≤ x
  | 0 => ⟨fun h => ⟨h, fun j hj => by omega⟩, fun h => h.1⟩
  | m + 1 => by
    rw [LoM]
    have := LoM_le (t := t) (x := x) (tl := tl) m
    constructor
    · intro h
      have a := this.1 (by omega)
      refine ⟨a.1, fun j hj => ?_⟩
      by_cases he : j < m
      · exact a.2 j he
      · obtain rfl : j = m := by omega
        omega
    · rintro ⟨h1, h2⟩
      have a := this.2 ⟨h1, fun j hj => h2 j (by omega)⟩
      have b := h2 m (by omega)
      omega
theorem HiM_ge {t x : Int} {th : Nat → Int} : ∀ m, x ≤ HiM t th m ↔ x ≤ t ∧ ∀ j, j < m → x ≤ th j
  | 0 => ⟨fun h => ⟨h, fun j hj => by omega⟩, fun h => h.1⟩
  | m + 1 => by
    rw [HiM]
    have := HiM_ge (t := t) (x := x) (th := th) m
    constructor
    · intro h
      have a := this.1 (by omega)
      refine ⟨a.1, fun j hj => ?_⟩
      by_cases he : j < m
      · exact a.2 j he
      · obtain rfl : j = m := by omega
        omega
    · rintro ⟨h1, h2⟩
      have a := this.2 ⟨h1, fun j hj => h2 j (by omega)⟩
      have b := h2 m (by omega)
      omega
section
variable {a0 : Bool} {a1 a2 a3 a4 : Int} {a5 : Nat} {a6 a7 : Nat → Int} {a8 : Nat} {a9 a10 a11 a12 : Nat → Int}
end
end Go.Proofs.Ythagjhadjpangaa.Cx

/- slices.IndexFunc[[]int,int] as an automaton. Made by tools/cxauto.py. -/
namespace Go.Proofs.Ythagjhadjpangaa.Cx
set_option linter.unusedVariables false
set_option linter.unusedSimpArgs false
set_option maxRecDepth 100000
open Go Go.Proofs Go.RowKit
noncomputable abbrev xixCode : Code := funcCode Try.f95
inductive xixN where
  | n0 (p0 : Int)
abbrev xixR := Int
noncomputable def xixD0 (a0 : Nat) (a1 : Nat → Int) (a2 a3 : Int) : DD (Lf xixN xixR) :=
 .leaf (.next (.n0 0) [])

noncomputable def xixD (a0 : Nat) (a1 : Nat → Int) (a2 a3 : Int) : xixN → DD (Lf xixN xixR)
 | .n0 p0 =>
 let z0 := a1 (0 + Int.toNat p0)
 .ask (Cm.run .lss p0 (↑a0 : Int))
   (.must (decide (0 ≤ p0))
   (.must (decide (p0 < (↑a0 : Int)))
   (.must (decide (0 + Int.toNat p0 < a0))
   (.ask (Cm.run .lss z0 a2)
   (.leaf (.done p0 []))
   (.ask (Cm.run .gtr z0 a3)
   (.leaf (.done p0 []))
   (.leaf (.next (.n0 (Ar.run .add .i64 p0 1)) [])))))))
   (.leaf (.done (-1) []))

noncomputable def xixA (a0 : Nat) (a1 : Nat → Int) (a2 a3 : Int) : AF xixN xixR where
  code := xixCode
  base := 3
  nt := 19
  m := 400
  un := []
  W := []
  h0 := [(0, ⟨.arg a0 1 (fun i => [.int .i64 (.x (a1 i))]) (fun _ => ⟨rfl, rfl⟩), 1, true, none⟩), (1, ⟨.arg 1 1 (fun i => [.int .i64 (.x a2)]) (fun _ => ⟨rfl, rfl⟩), 1, true, none⟩), (2, ⟨.arg 1 1 (fun i => [.int .i64 (.x a3)]) (fun _ => ⟨rfl, rfl⟩), 1, true, none⟩)]
  args := [.sla 0 1 0 a0, .fn (.func 84) [] [.ptr (some (1, 0)), .ptr (some (2, 0))]]
  res := (Try.f95).results.toList
  path := fun a => match a with
   | .n0 p0 => [1, 0, 1, 0]
  pd := fun a => match a with
   | .n0 p0 => ⟨[(0, .sla 0 1 0 a0), (1, .fn (.func 84) [] [.ptr (some (1, 0)), .ptr (some (2, 0))]), (7, .int .i64 (.x (↑a0))), (8, .int .i64 (.x p0))], [], 3, []⟩
  D0 := xixD0 a0 a1 a2 a3
  D := xixD a0 a1 a2 a3
  rc := (fun v => .int .i64 (.x v))
  rh := (fun v => [])
  rn := (fun v => 3)
  rx := (fun v => [])
  rgo := (fun _ => none)
theorem xixstart (a0 : Nat) (a1 : Nat → Int) (a2 a3 : Int) : AF.edgeOk (xixA a0 a1 a2 a3) (ctxOf Try.prog memo0) (xixD0 a0 a1 a2 a3) (AF.run0 (xixA a0 a1 a2 a3) (ctxOf Try.prog memo0)) := by unfold AF.edgeOk; kernel_rfl
theorem xixnode0 (a0 : Nat) (a1 : Nat → Int) (a2 a3 p0 : Int) : AF.edgeOk (xixA a0 a1 a2 a3) (ctxOf Try.prog memo0) (xixD a0 a1 a2 a3 (.n0 p0)) (AF.runN (xixA a0 a1 a2 a3) (ctxOf Try.prog memo0) (.n0 p0)) := by unfold AF.edgeOk; kernel_rfl
theorem xixok (a0 : Nat) (a1 : Nat → Int) (a2 a3 : Int) : (xixA a0 a1 a2 a3).Ok Try.prog (ctxOf Try.prog memo0) where
  regs := by kernel_rfl
  h0 := by kernel_rfl
  start := xixstart a0 a1 a2 a3
  node := fun a _ => match a with
   | .n0 p0 => xixnode0 a0 a1 a2 a3 p0
  pd := fun a => match a with
   | .n0 p0 => ⟨(fa_cons rfl (fa_cons rfl (fa_cons rfl (fa_cons rfl fa_nil)))), fa_nil, fa_nil, rfl⟩
  le := fun a => match a with
   | .n0 p0 => Nat.le_of_ble_eq_true rfl
  rd := fun v => ⟨⟨fa_nil, fa_nil, fa_nil, rfl⟩, rfl⟩
  wb := rfl
theorem xixhR {ρ : Env} (a0 : Nat) (a1 : Nat → Int) (a2 a3 : Int) (hM : MemoOk Try.prog (ctxOf Try.prog memo0) ρ) : ∀ X a q n D, FxOk ρ X → X.base = (xixA a0 a1 a2 a3).base → X.nt = (xixA a0 a1 a2 a3).nt → X.W = (xixA a0 a1 a2 a3).W → (xixA a0 a1 a2 a3).rgo a = some q → q n = some D → (xixA a0 a1 a2 a3).RangeOk Try.prog ρ X a D := AF.noRange rfl
theorem xixctr {ρ : Env} (a0 : Nat) (a1 : Nat → Int) (a2 a3 : Int) {n : Nat} {v : xixR} (hM : MemoOk Try.prog (ctxOf Try.prog memo0) ρ) (hv : (xixA a0 a1 a2 a3).run n = some v) :
    Ctr Try.prog ρ 95 (xixA a0 a1 a2 a3).args (xixA a0 a1 a2 a3).H0 (xixA a0 a1 a2 a3).base (xixA a0 a1 a2 a3).W ((xixA a0 a1 a2 a3).rc v) (putH (xixA a0 a1 a2 a3).H0 ((xixA a0 a1 a2 a3).rh v ++ (xixA a0 a1 a2 a3).rx v)) ((xixA a0 a1 a2 a3).rn v) :=
  AF.ctr try_ok hM (xixok a0 a1 a2 a3) (fn := Try.f95) Try.func95 rfl rfl (Nat.le_of_ble_eq_true rfl) rfl (xixhR a0 a1 a2 a3 hM) hv
theorem xixmem {ρ : Env} : MemoOk Try.prog (ctxOf Try.prog memo0) ρ := memo0_ok
abbrev xixP : List AB := [.rows [some .i64], .fn 84 [.box [.int .i64], .box [.int .i64]]]
noncomputable def xixF (v : AW) : AF xixN xixR := xixA (v.t.getD 0 .none).n ((v.t.getD 0 .none).c 0) (v.i.getD 0 0) (v.i.getD 1 0)
noncomputable def xixW : xixR → CV := fun v => .int .i64 (.x v)
noncomputable def xixH : xixR → List (Nat × Blk) := fun v => []
instance : Inhabited xixR := ⟨0⟩
theorem xixknown {ρ : Env} (hM : MemoOk Try.prog (ctxOf Try.prog memo0) ρ) : KnownF Try.prog ρ 95 xixP xixF xixW xixH 3 where
  fn := ⟨Try.f95, Try.func95, rfl⟩
  le := Nat.le_of_ble_eq_true rfl
  full := fun r => rfl
  rg := fun r => rfl
  hg := fun r => fa_nil
  ctr := fun v n r h => xixctr (v.t.getD 0 .none).n ((v.t.getD 0 .none).c 0) (v.i.getD 0 0) (v.i.getD 1 0) hM h
end Go.Proofs.Ythagjhadjpangaa.Cx

/- slices.ContainsFunc[[]int,int] as an automaton. Made by tools/cxauto.py. -/
namespace Go.Proofs.Ythagjhadjpangaa.Cx
set_option linter.unusedVariables false
set_option linter.unusedSimpArgs false
set_option maxRecDepth 100000
open Go Go.Proofs Go.RowKit
noncomputable abbrev xcfCode : Code := funcCode Try.f85
abbrev xcfN := Empty
abbrev xcfR := Bool
noncomputable def xcfD0 (a0 : Nat) (a1 : Nat → Int) (a2 a3 : Int) : DD (Lf xcfN xcfR) :=
 let z0 := fun i => [CV.int IntKind.i64 (IE.x (a1 (0 + i)))]
 let z1 := xixA a0 (fun i => a1 (0 + i)) a2 a3
 .must (decide (0 + a0 ≤ a0))
   (.must (ShapeOk [some IntKind.i64] (tabOf a0 z0) z0)
   (.must (AF.fin z1)
   (.ask (Cm.run .geq (AF.val z1) 0)
   (.leaf (.done true []))
   (.leaf (.done false [])))))

noncomputable def xcfD (a0 : Nat) (a1 : Nat → Int) (a2 a3 : Int) : xcfN → DD (Lf xcfN xcfR) := fun a => nomatch a
noncomputable def xcfA (a0 : Nat) (a1 : Nat → Int) (a2 a3 : Int) : AF xcfN xcfR where
  code := xcfCode
  base := 3
  nt := 9
  m := 400
  un := []
  W := []
  h0 := [(0, ⟨.arg a0 1 (fun i => [.int .i64 (.x (a1 i))]) (fun _ => ⟨rfl, rfl⟩), 1, true, none⟩), (1, ⟨.arg 1 1 (fun i => [.int .i64 (.x a2)]) (fun _ => ⟨rfl, rfl⟩), 1, true, none⟩), (2, ⟨.arg 1 1 (fun i => [.int .i64 (.x a3)]) (fun _ => ⟨rfl, rfl⟩), 1, true, none⟩)]
  args := [.sla 0 1 0 a0, .fn (.func 84) [] [.ptr (some (1, 0)), .ptr (some (2, 0))]]
  res := (Try.f85).results.toList
  path := fun a => nomatch a
  pd := fun a => nomatch a
  D0 := xcfD0 a0 a1 a2 a3
  D := xcfD a0 a1 a2 a3
  rc := (fun v => .bool (.x v))
  rh := (fun v => [])
  rn := (fun v => 3)
  rx := (fun v => [])
  rgo := (fun _ => none)
theorem xcfstart (a0 : Nat) (a1 : Nat → Int) (a2 a3 : Int) : AF.edgeOk (xcfA a0 a1 a2 a3) (ctxOf Try.prog memo0) (xcfD0 a0 a1 a2 a3) (AF.run0 (xcfA a0 a1 a2 a3) (ctxOf Try.prog (memoF 95 xixP xixF xixW xixH 3 memo0))) := by unfold AF.edgeOk; kernel_rfl
theorem xcfok (a0 : Nat) (a1 : Nat → Int) (a2 a3 : Int) : (xcfA a0 a1 a2 a3).Ok Try.prog (ctxOf Try.prog (memoF 95 xixP xixF xixW xixH 3 memo0)) where
  regs := by kernel_rfl
  h0 := by kernel_rfl
  start := xcfstart a0 a1 a2 a3
  node := fun a _ => nomatch a
  pd := fun a => nomatch a
  le := fun a => nomatch a
  rd := fun v => ⟨⟨fa_nil, fa_nil, fa_nil, rfl⟩, rfl⟩
  wb := rfl
theorem xcfhR {ρ : Env} (a0 : Nat) (a1 : Nat → Int) (a2 a3 : Int) (hM : MemoOk Try.prog (ctxOf Try.prog (memoF 95 xixP xixF xixW xixH 3 memo0)) ρ) : ∀ X a q n D, FxOk ρ X → X.base = (xcfA a0 a1 a2 a3).base → X.nt = (xcfA a0 a1 a2 a3).nt → X.W = (xcfA a0 a1 a2 a3).W → (xcfA a0 a1 a2 a3).rgo a = some q → q n = some D → (xcfA a0 a1 a2 a3).RangeOk Try.prog ρ X a D := AF.noRange rfl
theorem xcfctr {ρ : Env} (a0 : Nat) (a1 : Nat → Int) (a2 a3 : Int) {n : Nat} {v : xcfR} (hM : MemoOk Try.prog (ctxOf Try.prog (memoF 95 xixP xixF xixW xixH 3 memo0)) ρ) (hv : (xcfA a0 a1 a2 a3).run n = some v) :
    Ctr Try.prog ρ 85 (xcfA a0 a1 a2 a3).args (xcfA a0 a1 a2 a3).H0 (xcfA a0 a1 a2 a3).base (xcfA a0 a1 a2 a3).W ((xcfA a0 a1 a2 a3).rc v) (putH (xcfA a0 a1 a2 a3).H0 ((xcfA a0 a1 a2 a3).rh v ++ (xcfA a0 a1 a2 a3).rx v)) ((xcfA a0 a1 a2 a3).rn v) :=
  AF.ctr try_ok hM (xcfok a0 a1 a2 a3) (fn := Try.f85) Try.func85 rfl rfl (Nat.le_of_ble_eq_true rfl) rfl (xcfhR a0 a1 a2 a3 hM) hv
theorem xcfmem {ρ : Env} : MemoOk Try.prog (ctxOf Try.prog (memoF 95 xixP xixF xixW xixH 3 memo0)) ρ := (memoF_ok (xixknown xixmem) memo0_ok)
abbrev xcfP : List AB := [.rows [some .i64], .fn 84 [.box [.int .i64], .box [.int .i64]]]
noncomputable def xcfF (v : AW) : AF xcfN xcfR := xcfA (v.t.getD 0 .none).n ((v.t.getD 0 .none).c 0) (v.i.getD 0 0) (v.i.getD 1 0)
noncomputable def xcfW : xcfR → CV := fun v => .bool (.x v)
noncomputable def xcfH : xcfR → List (Nat × Blk) := fun v => []
instance : Inhabited xcfR := ⟨false⟩
theorem xcfknown {ρ : Env} (hM : MemoOk Try.prog (ctxOf Try.prog (memoF 95 xixP xixF xixW xixH 3 memo0)) ρ) : KnownF Try.prog ρ 85 xcfP xcfF xcfW xcfH 3 where
  fn := ⟨Try.f85, Try.func85, rfl⟩
  le := Nat.le_of_ble_eq_true rfl
  full := fun r => rfl
  rg := fun r => rfl
  hg := fun r => fa_nil
  ctr := fun v n r h => xcfctr (v.t.getD 0 .none).n ((v.t.getD 0 .none).c 0) (v.i.getD 0 0) (v.i.getD 1 0) hM h
end Go.Proofs.Ythagjhadjpangaa.Cx

/- acme/exact.AllFrom as an automaton. Made by tools/cxauto.py. -/
namespace Go.Proofs.Ythagjhadjpangaa.Cx
set_option linter.unusedVariables false
set_option linter.unusedSimpArgs false
set_option maxRecDepth 100000
open Go Go.Proofs Go.RowKit
noncomputable abbrev xalCode : Code := funcCode Try.f60
abbrev xalN := Empty
abbrev xalR := Bool
noncomputable def xalD0 (a0 a1 : Int) (a2 : Nat) (a3 : Nat → Int) : DD (Lf xalN xalR) :=
 let z0 := fun i => [CV.int IntKind.i64 (IE.x (a3 (0 + i)))]
 let z1 := xcfA a2 (fun i => a3 (0 + i)) a0 a1
 .must (decide (0 + a2 ≤ a2))
   (.must (ShapeOk [some IntKind.i64] (tabOf a2 z0) z0)
   (.must (AF.fin z1)
   (.leaf (.done (!AF.val z1) []))))

noncomputable def xalD (a0 a1 : Int) (a2 : Nat) (a3 : Nat → Int) : xalN → DD (Lf xalN xalR) := fun a => nomatch a
noncomputable def xalA (a0 a1 : Int) (a2 : Nat) (a3 : Nat → Int) : AF xalN xalR where
  code := xalCode
  base := 1
  nt := 13
  m := 400
  un := []
  W := []
  h0 := [(0, ⟨.arg a2 1 (fun i => [.int .i64 (.x (a3 i))]) (fun _ => ⟨rfl, rfl⟩), 1, true, none⟩)]
  args := [.int .i64 (.x a0), .int .i64 (.x a1), .sla 0 1 0 a2]
  res := (Try.f60).results.toList
  path := fun a => nomatch a
  pd := fun a => nomatch a
  D0 := xalD0 a0 a1 a2 a3
  D := xalD a0 a1 a2 a3
  rc := (fun v => .bool (.x v))
  rh := (fun v => [])
  rn := (fun v => 1)
  rx := (fun v => [])
  rgo := (fun _ => none)
theorem xalstart (a0 a1 : Int) (a2 : Nat) (a3 : Nat → Int) : AF.edgeOk (xalA a0 a1 a2 a3) (ctxOf Try.prog memo0) (xalD0 a0 a1 a2 a3) (AF.run0 (xalA a0 a1 a2 a3) (ctxOf Try.prog (memoF 85 xcfP xcfF xcfW xcfH 3 memo0))) := by unfold AF.edgeOk; kernel_rfl
theorem xalok (a0 a1 : Int) (a2 : Nat) (a3 : Nat → Int) : (xalA a0 a1 a2 a3).Ok Try.prog (ctxOf Try.prog (memoF 85 xcfP xcfF xcfW xcfH 3 memo0)) where
  regs := by kernel_rfl
  h0 := by kernel_rfl
  start := xalstart a0 a1 a2 a3
  node := fun a _ => nomatch a
  pd := fun a => nomatch a
  le := fun a => nomatch a
  rd := fun v => ⟨⟨fa_nil, fa_nil, fa_nil, rfl⟩, rfl⟩
  wb := rfl
theorem xalhR {ρ : Env} (a0 a1 : Int) (a2 : Nat) (a3 : Nat → Int) (hM : MemoOk Try.prog (ctxOf Try.prog (memoF 85 xcfP xcfF xcfW xcfH 3 memo0)) ρ) : ∀ X a q n D, FxOk ρ X → X.base = (xalA a0 a1 a2 a3).base → X.nt = (xalA a0 a1 a2 a3).nt → X.W = (xalA a0 a1 a2 a3).W → (xalA a0 a1 a2 a3).rgo a = some q → q n = some D → (xalA a0 a1 a2 a3).RangeOk Try.prog ρ X a D := AF.noRange rfl
theorem xalctr {ρ : Env} (a0 a1 : Int) (a2 : Nat) (a3 : Nat → Int) {n : Nat} {v : xalR} (hM : MemoOk Try.prog (ctxOf Try.prog (memoF 85 xcfP xcfF xcfW xcfH 3 memo0)) ρ) (hv : (xalA a0 a1 a2 a3).run n = some v) :
    Ctr Try.prog ρ 60 (xalA a0 a1 a2 a3).args (xalA a0 a1 a2 a3).H0 (xalA a0 a1 a2 a3).base (xalA a0 a1 a2 a3).W ((xalA a0 a1 a2 a3).rc v) (putH (xalA a0 a1 a2 a3).H0 ((xalA a0 a1 a2 a3).rh v ++ (xalA a0 a1 a2 a3).rx v)) ((xalA a0 a1 a2 a3).rn v) :=
  AF.ctr try_ok hM (xalok a0 a1 a2 a3) (fn := Try.f60) Try.func60 rfl rfl (Nat.le_of_ble_eq_true rfl) rfl (xalhR a0 a1 a2 a3 hM) hv
theorem xalmem {ρ : Env} : MemoOk Try.prog (ctxOf Try.prog (memoF 85 xcfP xcfF xcfW xcfH 3 memo0)) ρ := (memoF_ok (xcfknown xcfmem) memo0_ok)
abbrev xalP : List AQ := [.int .i64, .int .i64, .rows [some .i64]]
noncomputable def xalF (v : AW) : AF xalN xalR := xalA (v.i.getD 0 0) (v.i.getD 1 0) (v.t.getD 0 .none).n ((v.t.getD 0 .none).c 0)
noncomputable def xalW : xalR → CV := fun v => .bool (.x v)
noncomputable def xalH : xalR → List (Nat × Blk) := fun v => []
instance : Inhabited xalR := ⟨false⟩
theorem xalknown {ρ : Env} (hM : MemoOk Try.prog (ctxOf Try.prog (memoF 85 xcfP xcfF xcfW xcfH 3 memo0)) ρ) : KnownS Try.prog ρ 60 xalP xalF xalW xalH 1 where
  fn := ⟨Try.f60, Try.func60, rfl⟩
  le := Nat.le_of_ble_eq_true rfl
  full := fun r => rfl
  rg := fun r => rfl
  hg := fun r => fa_nil
  ctr := fun v n r h => xalctr (v.i.getD 0 0) (v.i.getD 1 0) (v.t.getD 0 .none).n ((v.t.getD 0 .none).c 0) hM h
end Go.Proofs.Ythagjhadjpangaa.Cx

/- (acme/die.shop).inOrder as an automaton. Made by tools/cxauto.py. -/
namespace Go.Proofs.Ythagjhadjpangaa.Cx
set_option linter.unusedVariables false
set_option linter.unusedSimpArgs false
set_option maxRecDepth 100000
open Go Go.Proofs Go.RowKit
noncomputable abbrev dioCode : Code := funcCode Try.f76
inductive dioN where
  | n0 (p0 p1 : Int)
abbrev dioR := Bool
noncomputable def dioD0 (a0 : Bool) (a1 a2 a3 a4 : Int) (a5 : Nat) (a6 a7 : Nat → Int) (a8 : Nat) (a9 a10 a11 a12 : Nat → Int) (a13 : Int) (a14 : Nat) (a15 : Nat → Int) : DD (Lf dioN dioR) :=
 .leaf (.next (.n0 (-1) 0) [3])

noncomputable def dioD (a0 : Bool) (a1 a2 a3 a4 : Int) (a5 : Nat) (a6 a7 : Nat → Int) (a8 : Nat) (a9 a10 a11 a12 : Nat → Int) (a13 : Int) (a14 : Nat) (a15 : Nat → Int) : dioN → DD (Lf dioN dioR)
 | .n0 p0 p1 =>
 let z0 := a15 (0 + Int.toNat p1)
 let z1 := fun i => [CV.int IntKind.i64 (IE.x (a15 (0 + i)))]
 let z2 := xalA 0 (Ar.run .sub .i64 a13 1) a14 (fun i => a15 (0 + i))
 .ask (Cm.run .lss p1 (↑a14 : Int))
   (.must (decide (0 ≤ p1))
   (.must (decide (p1 < (↑a14 : Int)))
   (.must (decide (0 + Int.toNat p1 < a14))
   (.ask (Cm.run .leq z0 p0)
   (.leaf (.done false []))
   (.leaf (.next (.n0 z0 (Ar.run .add .i64 p1 1)) [3]))))))
   (.must (decide (0 + a14 ≤ a14))
   (.must (ShapeOk [some IntKind.i64] (tabOf a14 z1) z1)
   (.must (AF.fin z2)
   (.leaf (.done (AF.val z2) [])))))

noncomputable def dioA (a0 : Bool) (a1 a2 a3 a4 : Int) (a5 : Nat) (a6 a7 : Nat → Int) (a8 : Nat) (a9 a10 a11 a12 : Nat → Int) (a13 : Int) (a14 : Nat) (a15 : Nat → Int) : AF dioN dioR where
  code := dioCode
  base := 3
  nt := 22
  m := 400
  un := []
  W := []
  h0 := [(0, ⟨.arg a5 2 (fun i => [.int .i64 (.x (a6 i)), .int .i64 (.x (a7 i))]) (fun _ => ⟨rfl, rfl⟩), 2, true, none⟩), (1, ⟨.arg a8 4 (fun i => [.int .i64 (.x (a9 i)), .int .i64 (.x (a10 i)), .int .i64 (.x (a11 i)), .int .i64 (.x (a12 i))]) (fun _ => ⟨rfl, rfl⟩), 4, true, none⟩), (2, ⟨.arg a14 1 (fun i => [.int .i64 (.x (a15 i))]) (fun _ => ⟨rfl, rfl⟩), 1, true, none⟩)]
  args := [.agg [.bool (.x a0), .int .i64 (.x a1), .int .i64 (.x a2), .int .i64 (.x a3), .int .i64 (.x a4), .sla 0 2 0 a5, .sla 1 4 0 a8, .int .i64 (.x a13)], .sla 2 1 0 a14]
  res := (Try.f76).results.toList
  path := fun a => match a with
   | .n0 p0 p1 => [1, 1, 0, 1, 0]
  pd := fun a => match a with
   | .n0 p0 p1 => ⟨[(1, .sla 2 1 0 a14), (2, .ptr (some (3, 0))), (5, .int .i64 (.x p0)), (8, .sla 2 1 0 a14), (9, .int .i64 (.x (↑a14))), (10, .int .i64 (.x p1))], [(3, ⟨.lit [.bool (.x a0), .int .i64 (.x a1), .int .i64 (.x a2), .int .i64 (.x a3), .int .i64 (.x a4), .sla 0 2 0 a5, .sla 1 4 0 a8, .int .i64 (.x a13)], 0, true, none⟩)], 4, []⟩
  D0 := dioD0 a0 a1 a2 a3 a4 a5 a6 a7 a8 a9 a10 a11 a12 a13 a14 a15
  D := dioD a0 a1 a2 a3 a4 a5 a6 a7 a8 a9 a10 a11 a12 a13 a14 a15
  rc := (fun v => .bool (.x v))
  rh := (fun v => [])
  rn := (fun v => 3)
  rx := (fun v => [])
  rgo := (fun _ => none)
theorem diostart (a0 : Bool) (a1 a2 a3 a4 : Int) (a5 : Nat) (a6 a7 : Nat → Int) (a8 : Nat) (a9 a10 a11 a12 : Nat → Int) (a13 : Int) (a14 : Nat) (a15 : Nat → Int) : AF.edgeOk (dioA a0 a1 a2 a3 a4 a5 a6 a7 a8 a9 a10 a11 a12 a13 a14 a15) (ctxOf Try.prog memo0) (dioD0 a0 a1 a2 a3 a4 a5 a6 a7 a8 a9 a10 a11 a12 a13 a14 a15) (AF.run0 (dioA a0 a1 a2 a3 a4 a5 a6 a7 a8 a9 a10 a11 a12 a13 a14 a15) (ctxOf Try.prog (memoS 60 xalP xalF xalW xalH 1 memo0))) := by unfold AF.edgeOk; kernel_rfl
theorem dionode0 (a0 : Bool) (a1 a2 a3 a4 : Int) (a5 : Nat) (a6 a7 : Nat → Int) (a8 : Nat) (a9 a10 a11 a12 : Nat → Int) (a13 : Int) (a14 : Nat) (a15 : Nat → Int) (p0 p1 : Int) : AF.edgeOk (dioA a0 a1 a2 a3 a4 a5 a6 a7 a8 a9 a10 a11 a12 a13 a14 a15) (ctxOf Try.prog memo0) (dioD a0 a1 a2 a3 a4 a5 a6 a7 a8 a9 a10 a11 a12 a13 a14 a15 (.n0 p0 p1)) (AF.runN (dioA a0 a1 a2 a3 a4 a5 a6 a7 a8 a9 a10 a11 a12 a13 a14 a15) (ctxOf Try.prog (memoS 60 xalP xalF xalW xalH 1 memo0)) (.n0 p0 p1)) := by unfold AF.edgeOk; kernel_rfl
theorem diook (a0 : Bool) (a1 a2 a3 a4 : Int) (a5 : Nat) (a6 a7 : Nat → Int) (a8 : Nat) (a9 a10 a11 a12 : Nat → Int) (a13 : Int) (a14 : Nat) (a15 : Nat → Int) : (dioA a0 a1 a2 a3 a4 a5 a6 a7 a8 a9 a10 a11 a12 a13 a14 a15).Ok Try.prog (ctxOf Try.prog (memoS 60 xalP xalF xalW xalH 1 memo0)) where
  regs := by kernel_rfl
  h0 := by kernel_rfl
  start := diostart a0 a1 a2 a3 a4 a5 a6 a7 a8 a9 a10 a11 a12 a13 a14 a15
  node := fun a _ => match a with
   | .n0 p0 p1 => dionode0 a0 a1 a2 a3 a4 a5 a6 a7 a8 a9 a10 a11 a12 a13 a14 a15 p0 p1
  pd := fun a => match a with
   | .n0 p0 p1 => ⟨(fa_cons rfl (fa_cons rfl (fa_cons rfl (fa_cons rfl (fa_cons rfl (fa_cons rfl fa_nil)))))), (fa_cons ⟨.inl (Nat.le_of_ble_eq_true rfl), rfl, rfl⟩ fa_nil), fa_nil, rfl⟩
  le := fun a => match a with
   | .n0 p0 p1 => Nat.le_of_ble_eq_true rfl
  rd := fun v => ⟨⟨fa_nil, fa_nil, fa_nil, rfl⟩, rfl⟩
  wb := rfl
theorem diohR {ρ : Env} (a0 : Bool) (a1 a2 a3 a4 : Int) (a5 : Nat) (a6 a7 : Nat → Int) (a8 : Nat) (a9 a10 a11 a12 : Nat → Int) (a13 : Int) (a14 : Nat) (a15 : Nat → Int) (hM : MemoOk Try.prog (ctxOf Try.prog (memoS 60 xalP xalF xalW xalH 1 memo0)) ρ) : ∀ X a q n D, FxOk ρ X → X.base = (dioA a0 a1 a2 a3 a4 a5 a6 a7 a8 a9 a10 a11 a12 a13 a14 a15).base → X.nt = (dioA a0 a1 a2 a3 a4 a5 a6 a7 a8 a9 a10 a11 a12 a13 a14 a15).nt → X.W = (dioA a0 a1 a2 a3 a4 a5 a6 a7 a8 a9 a10 a11 a12 a13 a14 a15).W → (dioA a0 a1 a2 a3 a4 a5 a6 a7 a8 a9 a10 a11 a12 a13 a14 a15).rgo a = some q → q n = some D → (dioA a0 a1 a2 a3 a4 a5 a6 a7 a8 a9 a10 a11 a12 a13 a14 a15).RangeOk Try.prog ρ X a D := AF.noRange rfl
theorem dioctr {ρ : Env} (a0 : Bool) (a1 a2 a3 a4 : Int) (a5 : Nat) (a6 a7 : Nat → Int) (a8 : Nat) (a9 a10 a11 a12 : Nat → Int) (a13 : Int) (a14 : Nat) (a15 : Nat → Int) {n : Nat} {v : dioR} (hM : MemoOk Try.prog (ctxOf Try.prog (memoS 60 xalP xalF xalW xalH 1 memo0)) ρ) (hv : (dioA a0 a1 a2 a3 a4 a5 a6 a7 a8 a9 a10 a11 a12 a13 a14 a15).run n = some v) :
    Ctr Try.prog ρ 76 (dioA a0 a1 a2 a3 a4 a5 a6 a7 a8 a9 a10 a11 a12 a13 a14 a15).args (dioA a0 a1 a2 a3 a4 a5 a6 a7 a8 a9 a10 a11 a12 a13 a14 a15).H0 (dioA a0 a1 a2 a3 a4 a5 a6 a7 a8 a9 a10 a11 a12 a13 a14 a15).base (dioA a0 a1 a2 a3 a4 a5 a6 a7 a8 a9 a10 a11 a12 a13 a14 a15).W ((dioA a0 a1 a2 a3 a4 a5 a6 a7 a8 a9 a10 a11 a12 a13 a14 a15).rc v) (putH (dioA a0 a1 a2 a3 a4 a5 a6 a7 a8 a9 a10 a11 a12 a13 a14 a15).H0 ((dioA a0 a1 a2 a3 a4 a5 a6 a7 a8 a9 a10 a11 a12 a13 a14 a15).rh v ++ (dioA a0 a1 a2 a3 a4 a5 a6 a7 a8 a9 a10 a11 a12 a13 a14 a15).rx v)) ((dioA a0 a1 a2 a3 a4 a5 a6 a7 a8 a9 a10 a11 a12 a13 a14 a15).rn v) :=
  AF.ctr try_ok hM (diook a0 a1 a2 a3 a4 a5 a6 a7 a8 a9 a10 a11 a12 a13 a14 a15) (fn := Try.f76) Try.func76 rfl rfl (Nat.le_of_ble_eq_true rfl) rfl (diohR a0 a1 a2 a3 a4 a5 a6 a7 a8 a9 a10 a11 a12 a13 a14 a15 hM) hv
theorem diomem {ρ : Env} : MemoOk Try.prog (ctxOf Try.prog (memoS 60 xalP xalF xalW xalH 1 memo0)) ρ := (memoS_ok (xalknown xalmem) memo0_ok)
abbrev dioP : List AQ := [.agg [.bool, .int .i64, .int .i64, .int .i64, .int .i64, .rows [some .i64, some .i64], .rows [some .i64, some .i64, some .i64, some .i64], .int .i64], .rows [some .i64]]
noncomputable def dioF (v : AW) : AF dioN dioR := dioA (v.b.getD 0 false) (v.i.getD 0 0) (v.i.getD 1 0) (v.i.getD 2 0) (v.i.getD 3 0) (v.t.getD 0 .none).n ((v.t.getD 0 .none).c 0) ((v.t.getD 0 .none).c 1) (v.t.getD 1 .none).n ((v.t.getD 1 .none).c 0) ((v.t.getD 1 .none).c 1) ((v.t.getD 1 .none).c 2) ((v.t.getD 1 .none).c 3) (v.i.getD 4 0) (v.t.getD 2 .none).n ((v.t.getD 2 .none).c 0)
noncomputable def dioW : dioR → CV := fun v => .bool (.x v)
noncomputable def dioH : dioR → List (Nat × Blk) := fun v => []
instance : Inhabited dioR := ⟨false⟩
theorem dioknown {ρ : Env} (hM : MemoOk Try.prog (ctxOf Try.prog (memoS 60 xalP xalF xalW xalH 1 memo0)) ρ) : KnownS Try.prog ρ 76 dioP dioF dioW dioH 3 where
  fn := ⟨Try.f76, Try.func76, rfl⟩
  le := Nat.le_of_ble_eq_true rfl
  full := fun r => rfl
  rg := fun r => rfl
  hg := fun r => fa_nil
  ctr := fun v n r h => dioctr (v.b.getD 0 false) (v.i.getD 0 0) (v.i.getD 1 0) (v.i.getD 2 0) (v.i.getD 3 0) (v.t.getD 0 .none).n ((v.t.getD 0 .none).c 0) ((v.t.getD 0 .none).c 1) (v.t.getD 1 .none).n ((v.t.getD 1 .none).c 0) ((v.t.getD 1 .none).c 1) ((v.t.getD 1 .none).c 2) ((v.t.getD 1 .none).c 3) (v.i.getD 4 0) (v.t.getD 2 .none).n ((v.t.getD 2 .none).c 0) hM h
end Go.Proofs.Ythagjhadjpangaa.Cx

/- (acme/die.shop).validPlan as an automaton. Made by tools/cxauto.py. -/
namespace Go.Proofs.Ythagjhadjpangaa.Cx
set_option linter.unusedVariables false
set_option linter.unusedSimpArgs false
set_option maxRecDepth 100000
open Go Go.Proofs Go.RowKit
noncomputable abbrev dvpCode : Code := funcCode Try.f75
inductive dvpN where
  | n0
  | n1 (p0 p1 : Nat) (p2 : Int) (p3 p4 : Nat → Int)
abbrev dvpR := Bool
noncomputable def dvpD0 (a0 : Bool) (a1 a2 a3 a4 : Int) (a5 : Nat) (a6 a7 : Nat → Int) (a8 : Nat) (a9 a10 a11 a12 : Nat → Int) (a13 : Int) (a14 : Nat) (a15 a16 : Nat → Int) : DD (Lf dvpN dvpR) :=
 .leaf (.next (.n0) [3])

noncomputable def dvpD (a0 : Bool) (a1 a2 a3 a4 : Int) (a5 : Nat) (a6 a7 : Nat → Int) (a8 : Nat) (a9 a10 a11 a12 : Nat → Int) (a13 : Int) (a14 : Nat) (a15 a16 : Nat → Int) : dvpN → DD (Lf dvpN dvpR)
 | .n0 =>
 let z0 := fun i => [CV.int IntKind.i64 (IE.x (a6 (0 + i))), CV.int IntKind.i64 (IE.x (a7 (0 + i)))]
 let z1 := fun i => [CV.int IntKind.i64 (IE.x (a9 (0 + i))), CV.int IntKind.i64 (IE.x (a10 (0 + i))), CV.int IntKind.i64 (IE.x (a11 (0 + i))), CV.int IntKind.i64 (IE.x (a12 (0 + i)))]
 let z2 := dioA a0 a1 a2 a3 a4 a5 (fun i => a6 (0 + i)) (fun i => a7 (0 + i)) a8 (fun i => a9 (0 + i)) (fun i => a10 (0 + i)) (fun i => a11 (0 + i)) (fun i => a12 (0 + i)) a13 0 (fun i => 0)
 .ask (Cm.run .lss 0 (↑a14 : Int))
   (.must (true)
   (.must (decide (0 < (↑a14 : Int)))
   (.must (decide (0 + Int.toNat 0 < a14))
   (.leaf (.next (.n1 1 1 1 (fun i => a15 (0 + Int.toNat 0)) (fun i => a16 (0 + Int.toNat 0))) [3, 6, 8])))))
   (.must (decide (0 + a5 ≤ a5))
   (.must (ShapeOk [some IntKind.i64, some IntKind.i64] (tabOf a5 z0) z0)
   (.must (decide (0 + a8 ≤ a8))
   (.must (ShapeOk [some IntKind.i64, some IntKind.i64, some IntKind.i64, some IntKind.i64] (tabOf a8 z1) z1)
   (.must (AF.fin z2)
   (.ask (AF.val z2)
   (.must (AF.fin (xalA (-10000000000) 20000000000 0 (fun i => 0)))
   (.leaf (.done (AF.val (xalA (-10000000000) 20000000000 0 (fun i => 0))) [])))
   (.leaf (.done false []))))))))
 | .n1 p0 p1 p2 p3 p4 =>
 let z0 := decide (0 + p0 ≤ p0)
 let z1 := decide (0 + p1 ≤ p1)
 let z2 := fun i => [CV.int IntKind.i64 (IE.x (a6 (0 + i))), CV.int IntKind.i64 (IE.x (a7 (0 + i)))]
 let z3 := fun i => [CV.int IntKind.i64 (IE.x (a9 (0 + i))), CV.int IntKind.i64 (IE.x (a10 (0 + i))), CV.int IntKind.i64 (IE.x (a11 (0 + i))), CV.int IntKind.i64 (IE.x (a12 (0 + i)))]
 let z4 := fun i => [CV.int IntKind.i64 (IE.x (p3 (0 + i)))]
 let z5 := dioA a0 a1 a2 a3 a4 a5 (fun i => a6 (0 + i)) (fun i => a7 (0 + i)) a8 (fun i => a9 (0 + i)) (fun i => a10 (0 + i)) (fun i => a11 (0 + i)) (fun i => a12 (0 + i)) a13 p0 (fun i => p3 (0 + i))
 let z6 := fun i => [CV.int IntKind.i64 (IE.x (p4 (0 + i)))]
 let z7 := xalA (-10000000000) 20000000000 p1 (fun i => p4 (0 + i))
 .ask (Cm.run .lss p2 (↑a14 : Int))
   (.must (decide (0 ≤ p2))
   (.must (decide (p2 < (↑a14 : Int)))
   (.must (decide (0 + Int.toNat p2 < a14))
   (.must z0
   (.must (decide (p0 + 1 ≤ 10000))
   (.must z1
   (.must (decide (p1 + 1 ≤ 10000))
   (.leaf (.next (.n1 (p0 + 1) (p1 + 1) (Ar.run .add .i64 p2 1) (fun i => bif Nat.blt i p0 then p3 (0 + i) else a15 (0 + Int.toNat p2)) (fun i => bif Nat.blt i p1 then p4 (0 + i) else a16 (0 + Int.toNat p2))) [3, 8, 10])))))))))
   (.must (decide (0 + a5 ≤ a5))
   (.must (ShapeOk [some IntKind.i64, some IntKind.i64] (tabOf a5 z2) z2)
   (.must (decide (0 + a8 ≤ a8))
   (.must (ShapeOk [some IntKind.i64, some IntKind.i64, some IntKind.i64, some IntKind.i64] (tabOf a8 z3) z3)
   (.must z0
   (.must (ShapeOk [some IntKind.i64] (tabOf p0 z4) z4)
   (.must (decide (p0 ≤ p0))
   (.must (AF.fin z5)
   (.ask (AF.val z5)
   (.must z1
   (.must (ShapeOk [some IntKind.i64] (tabOf p1 z6) z6)
   (.must (decide (p1 ≤ p1))
   (.must (AF.fin z7)
   (.leaf (.done (AF.val z7) []))))))
   (.leaf (.done false [])))))))))))

noncomputable def dvpA (a0 : Bool) (a1 a2 a3 a4 : Int) (a5 : Nat) (a6 a7 : Nat → Int) (a8 : Nat) (a9 a10 a11 a12 : Nat → Int) (a13 : Int) (a14 : Nat) (a15 a16 : Nat → Int) : AF dvpN dvpR where
  code := dvpCode
  base := 3
  nt := 39
  m := 400
  un := []
  W := []
  h0 := [(0, ⟨.arg a5 2 (fun i => [.int .i64 (.x (a6 i)), .int .i64 (.x (a7 i))]) (fun _ => ⟨rfl, rfl⟩), 2, true, none⟩), (1, ⟨.arg a8 4 (fun i => [.int .i64 (.x (a9 i)), .int .i64 (.x (a10 i)), .int .i64 (.x (a11 i)), .int .i64 (.x (a12 i))]) (fun _ => ⟨rfl, rfl⟩), 4, true, none⟩), (2, ⟨.arg a14 2 (fun i => [.int .i64 (.x (a15 i)), .int .i64 (.x (a16 i))]) (fun _ => ⟨rfl, rfl⟩), 2, true, none⟩)]
  args := [.agg [.bool (.x a0), .int .i64 (.x a1), .int .i64 (.x a2), .int .i64 (.x a3), .int .i64 (.x a4), .sla 0 2 0 a5, .sla 1 4 0 a8, .int .i64 (.x a13)], .sla 2 2 0 a14]
  res := (Try.f75).results.toList
  path := fun a => match a with
   | .n0 => [1, 1, 0, 1, 0]
   | .n1 p0 p1 p2 p3 p4 => [1, 1, 0, 1, 0]
  pd := fun a => match a with
   | .n0 => ⟨[(2, .ptr (some (3, 0))), (5, .slc none 0 0), (6, .slc none 0 0), (10, .sla 2 2 0 a14), (11, .int .i64 (.x (↑a14))), (12, .int .i64 (.x 0))], [(3, ⟨.lit [.bool (.x a0), .int .i64 (.x a1), .int .i64 (.x a2), .int .i64 (.x a3), .int .i64 (.x a4), .sla 0 2 0 a5, .sla 1 4 0 a8, .int .i64 (.x a13)], 0, true, none⟩)], 4, []⟩
   | .n1 p0 p1 p2 p3 p4 => ⟨[(2, .ptr (some (3, 0))), (5, .slx 4 1 0 p0 p0), (6, .slx 5 1 0 p1 p1), (10, .sla 2 2 0 a14), (11, .int .i64 (.x (↑a14))), (12, .int .i64 (.x p2))], [(3, ⟨.lit [.bool (.x a0), .int .i64 (.x a1), .int .i64 (.x a2), .int .i64 (.x a3), .int .i64 (.x a4), .sla 0 2 0 a5, .sla 1 4 0 a8, .int .i64 (.x a13)], 0, true, none⟩), (4, ⟨.rows p0 1 (fun i => [.int .i64 (.x (p3 i))]) (fun _ => ⟨rfl, rfl⟩), 1, true, none⟩), (5, ⟨.rows p1 1 (fun i => [.int .i64 (.x (p4 i))]) (fun _ => ⟨rfl, rfl⟩), 1, true, none⟩)], 6, []⟩
  D0 := dvpD0 a0 a1 a2 a3 a4 a5 a6 a7 a8 a9 a10 a11 a12 a13 a14 a15 a16
  D := dvpD a0 a1 a2 a3 a4 a5 a6 a7 a8 a9 a10 a11 a12 a13 a14 a15 a16
  rc := (fun v => .bool (.x v))
  rh := (fun v => [])
  rn := (fun v => 3)
  rx := (fun v => [])
  rgo := (fun _ => none)
theorem dvpstart (a0 : Bool) (a1 a2 a3 a4 : Int) (a5 : Nat) (a6 a7 : Nat → Int) (a8 : Nat) (a9 a10 a11 a12 : Nat → Int) (a13 : Int) (a14 : Nat) (a15 a16 : Nat → Int) : AF.edgeOk (dvpA a0 a1 a2 a3 a4 a5 a6 a7 a8 a9 a10 a11 a12 a13 a14 a15 a16) (ctxOf Try.prog memo0) (dvpD0 a0 a1 a2 a3 a4 a5 a6 a7 a8 a9 a10 a11 a12 a13 a14 a15 a16) (AF.run0 (dvpA a0 a1 a2 a3 a4 a5 a6 a7 a8 a9 a10 a11 a12 a13 a14 a15 a16) (ctxOf Try.prog (memoS 76 dioP dioF dioW dioH 3 (memoS 60 xalP xalF xalW xalH 1 memo0)))) := by unfold AF.edgeOk; kernel_rfl
theorem dvpnode0 (a0 : Bool) (a1 a2 a3 a4 : Int) (a5 : Nat) (a6 a7 : Nat → Int) (a8 : Nat) (a9 a10 a11 a12 : Nat → Int) (a13 : Int) (a14 : Nat) (a15 a16 : Nat → Int) : AF.edgeOk (dvpA a0 a1 a2 a3 a4 a5 a6 a7 a8 a9 a10 a11 a12 a13 a14 a15 a16) (ctxOf Try.prog memo0) (dvpD a0 a1 a2 a3 a4 a5 a6 a7 a8 a9 a10 a11 a12 a13 a14 a15 a16 (.n0)) (AF.runN (dvpA a0 a1 a2 a3 a4 a5 a6 a7 a8 a9 a10 a11 a12 a13 a14 a15 a16) (ctxOf Try.prog (memoS 76 dioP dioF dioW dioH 3 (memoS 60 xalP xalF xalW xalH 1 memo0))) (.n0)) := by unfold AF.edgeOk; kernel_rfl
theorem dvpnode1 (a0 : Bool) (a1 a2 a3 a4 : Int) (a5 : Nat) (a6 a7 : Nat → Int) (a8 : Nat) (a9 a10 a11 a12 : Nat → Int) (a13 : Int) (a14 : Nat) (a15 a16 : Nat → Int) (p0 p1 : Nat) (p2 : Int) (p3 p4 : Nat → Int) : AF.edgeOk (dvpA a0 a1 a2 a3 a4 a5 a6 a7 a8 a9 a10 a11 a12 a13 a14 a15 a16) (ctxOf Try.prog memo0) (dvpD a0 a1 a2 a3 a4 a5 a6 a7 a8 a9 a10 a11 a12 a13 a14 a15 a16 (.n1 p0 p1 p2 p3 p4)) (AF.runN (dvpA a0 a1 a2 a3 a4 a5 a6 a7 a8 a9 a10 a11 a12 a13 a14 a15 a16) (ctxOf Try.prog (memoS 76 dioP dioF dioW dioH 3 (memoS 60 xalP xalF xalW xalH 1 memo0))) (.n1 p0 p1 p2 p3 p4)) := by unfold AF.edgeOk; kernel_rfl
theorem dvpok (a0 : Bool) (a1 a2 a3 a4 : Int) (a5 : Nat) (a6 a7 : Nat → Int) (a8 : Nat) (a9 a10 a11 a12 : Nat → Int) (a13 : Int) (a14 : Nat) (a15 a16 : Nat → Int) : (dvpA a0 a1 a2 a3 a4 a5 a6 a7 a8 a9 a10 a11 a12 a13 a14 a15 a16).Ok Try.prog (ctxOf Try.prog (memoS 76 dioP dioF dioW dioH 3 (memoS 60 xalP xalF xalW xalH 1 memo0))) where
  regs := by kernel_rfl
  h0 := by kernel_rfl
  start := dvpstart a0 a1 a2 a3 a4 a5 a6 a7 a8 a9 a10 a11 a12 a13 a14 a15 a16
  node := fun a _ => match a with
   | .n0 => dvpnode0 a0 a1 a2 a3 a4 a5 a6 a7 a8 a9 a10 a11 a12 a13 a14 a15 a16
   | .n1 p0 p1 p2 p3 p4 => dvpnode1 a0 a1 a2 a3 a4 a5 a6 a7 a8 a9 a10 a11 a12 a13 a14 a15 a16 p0 p1 p2 p3 p4
  pd := fun a => match a with
   | .n0 => ⟨(fa_cons rfl (fa_cons rfl (fa_cons rfl (fa_cons rfl (fa_cons rfl (fa_cons rfl fa_nil)))))), (fa_cons ⟨.inl (Nat.le_of_ble_eq_true rfl), rfl, rfl⟩ fa_nil), fa_nil, rfl⟩
   | .n1 p0 p1 p2 p3 p4 => ⟨(fa_cons rfl (fa_cons rfl (fa_cons rfl (fa_cons rfl (fa_cons rfl (fa_cons rfl fa_nil)))))), (fa_cons ⟨.inl (Nat.le_of_ble_eq_true rfl), rfl, rfl⟩ (fa_cons ⟨.inl (Nat.le_of_ble_eq_true rfl), (fun _ => rfl), rfl⟩ (fa_cons ⟨.inl (Nat.le_of_ble_eq_true rfl), (fun _ => rfl), rfl⟩ fa_nil))), fa_nil, rfl⟩
  le := fun a => match a with
   | .n0 => Nat.le_of_ble_eq_true rfl
   | .n1 p0 p1 p2 p3 p4 => Nat.le_of_ble_eq_true rfl
  rd := fun v => ⟨⟨fa_nil, fa_nil, fa_nil, rfl⟩, rfl⟩
  wb := rfl
theorem dvphR {ρ : Env} (a0 : Bool) (a1 a2 a3 a4 : Int) (a5 : Nat) (a6 a7 : Nat → Int) (a8 : Nat) (a9 a10 a11 a12 : Nat → Int) (a13 : Int) (a14 : Nat) (a15 a16 : Nat → Int) (hM : MemoOk Try.prog (ctxOf Try.prog (memoS 76 dioP dioF dioW dioH 3 (memoS 60 xalP xalF xalW xalH 1 memo0))) ρ) : ∀ X a q n D, FxOk ρ X → X.base = (dvpA a0 a1 a2 a3 a4 a5 a6 a7 a8 a9 a10 a11 a12 a13 a14 a15 a16).base → X.nt = (dvpA a0 a1 a2 a3 a4 a5 a6 a7 a8 a9 a10 a11 a12 a13 a14 a15 a16).nt → X.W = (dvpA a0 a1 a2 a3 a4 a5 a6 a7 a8 a9 a10 a11 a12 a13 a14 a15 a16).W → (dvpA a0 a1 a2 a3 a4 a5 a6 a7 a8 a9 a10 a11 a12 a13 a14 a15 a16).rgo a = some q → q n = some D → (dvpA a0 a1 a2 a3 a4 a5 a6 a7 a8 a9 a10 a11 a12 a13 a14 a15 a16).RangeOk Try.prog ρ X a D := AF.noRange rfl
theorem dvpctr {ρ : Env} (a0 : Bool) (a1 a2 a3 a4 : Int) (a5 : Nat) (a6 a7 : Nat → Int) (a8 : Nat) (a9 a10 a11 a12 : Nat → Int) (a13 : Int) (a14 : Nat) (a15 a16 : Nat → Int) {n : Nat} {v : dvpR} (hM : MemoOk Try.prog (ctxOf Try.prog (memoS 76 dioP dioF dioW dioH 3 (memoS 60 xalP xalF xalW xalH 1 memo0))) ρ) (hv : (dvpA a0 a1 a2 a3 a4 a5 a6 a7 a8 a9 a10 a11 a12 a13 a14 a15 a16).run n = some v) :
    Ctr Try.prog ρ 75 (dvpA a0 a1 a2 a3 a4 a5 a6 a7 a8 a9 a10 a11 a12 a13 a14 a15 a16).args (dvpA a0 a1 a2 a3 a4 a5 a6 a7 a8 a9 a10 a11 a12 a13 a14 a15 a16).H0 (dvpA a0 a1 a2 a3 a4 a5 a6 a7 a8 a9 a10 a11 a12 a13 a14 a15 a16).base (dvpA a0 a1 a2 a3 a4 a5 a6 a7 a8 a9 a10 a11 a12 a13 a14 a15 a16).W ((dvpA a0 a1 a2 a3 a4 a5 a6 a7 a8 a9 a10 a11 a12 a13 a14 a15 a16).rc v) (putH (dvpA a0 a1 a2 a3 a4 a5 a6 a7 a8 a9 a10 a11 a12 a13 a14 a15 a16).H0 ((dvpA a0 a1 a2 a3 a4 a5 a6 a7 a8 a9 a10 a11 a12 a13 a14 a15 a16).rh v ++ (dvpA a0 a1 a2 a3 a4 a5 a6 a7 a8 a9 a10 a11 a12 a13 a14 a15 a16).rx v)) ((dvpA a0 a1 a2 a3 a4 a5 a6 a7 a8 a9 a10 a11 a12 a13 a14 a15 a16).rn v) :=
  AF.ctr try_ok hM (dvpok a0 a1 a2 a3 a4 a5 a6 a7 a8 a9 a10 a11 a12 a13 a14 a15 a16) (fn := Try.f75) Try.func75 rfl rfl (Nat.le_of_ble_eq_true rfl) rfl (dvphR a0 a1 a2 a3 a4 a5 a6 a7 a8 a9 a10 a11 a12 a13 a14 a15 a16 hM) hv
theorem dvpmem {ρ : Env} : MemoOk Try.prog (ctxOf Try.prog (memoS 76 dioP dioF dioW dioH 3 (memoS 60 xalP xalF xalW xalH 1 memo0))) ρ := (memoS_ok (dioknown diomem) (memoS_ok (xalknown xalmem) memo0_ok))
abbrev dvpP : List AQ := [.agg [.bool, .int .i64, .int .i64, .int .i64, .int .i64, .rows [some .i64, some .i64], .rows [some .i64, some .i64, some .i64, some .i64], .int .i64], .rows [some .i64, some .i64]]
noncomputable def dvpF (v : AW) : AF dvpN dvpR := dvpA (v.b.getD 0 false) (v.i.getD 0 0) (v.i.getD 1 0) (v.i.getD 2 0) (v.i.getD 3 0) (v.t.getD 0 .none).n ((v.t.getD 0 .none).c 0) ((v.t.getD 0 .none).c 1) (v.t.getD 1 .none).n ((v.t.getD 1 .none).c 0) ((v.t.getD 1 .none).c 1) ((v.t.getD 1 .none).c 2) ((v.t.getD 1 .none).c 3) (v.i.getD 4 0) (v.t.getD 2 .none).n ((v.t.getD 2 .none).c 0) ((v.t.getD 2 .none).c 1)
noncomputable def dvpW : dvpR → CV := fun v => .bool (.x v)
noncomputable def dvpH : dvpR → List (Nat × Blk) := fun v => []
instance : Inhabited dvpR := ⟨false⟩
theorem dvpknown {ρ : Env} (hM : MemoOk Try.prog (ctxOf Try.prog (memoS 76 dioP dioF dioW dioH 3 (memoS 60 xalP xalF xalW xalH 1 memo0))) ρ) : KnownS Try.prog ρ 75 dvpP dvpF dvpW dvpH 3 where
  fn := ⟨Try.f75, Try.func75, rfl⟩
  le := Nat.le_of_ble_eq_true rfl
  full := fun r => rfl
  rg := fun r => rfl
  hg := fun r => fa_nil
  ctr := fun v n r h => dvpctr (v.b.getD 0 false) (v.i.getD 0 0) (v.i.getD 1 0) (v.i.getD 2 0) (v.i.getD 3 0) (v.t.getD 0 .none).n ((v.t.getD 0 .none).c 0) ((v.t.getD 0 .none).c 1) (v.t.getD 1 .none).n ((v.t.getD 1 .none).c 0) ((v.t.getD 1 .none).c 1) ((v.t.getD 1 .none).c 2) ((v.t.getD 1 .none).c 3) (v.i.getD 4 0) (v.t.getD 2 .none).n ((v.t.getD 2 .none).c 0) ((v.t.getD 2 .none).c 1) hM h
end Go.Proofs.Ythagjhadjpangaa.Cx

/- acme/acmeref07.Settings as an automaton. Made by tools/cxauto.py. -/
namespace Go.Proofs.Ythagjhadjpangaa.Cx
set_option linter.unusedVariables false
set_option linter.unusedSimpArgs false
set_option maxRecDepth 100000
open Go Go.Proofs Go.RowKit
noncomputable abbrev rdsCode : Code := funcCode Try.f36
inductive rdsN where
  | n0 (p0 : Int)
abbrev rdsR := Int
noncomputable def rdsD0 (a0 : Nat) (a1 a2 a3 a4 : Nat → Int) (a5 : Nat) (a6 a7 : Nat → Int) : DD (Lf rdsN rdsR) :=
 .ask (Cm.run .gtr ((↑a5 : Int)) 1000)
   (.leaf (.done 5 []))
   (.leaf (.next (.n0 0) []))

noncomputable def rdsD (a0 : Nat) (a1 a2 a3 a4 : Nat → Int) (a5 : Nat) (a6 a7 : Nat → Int) : rdsN → DD (Lf rdsN rdsR)
 | .n0 p0 =>
 let z0 := decide (0 ≤ p0)
 let z1 := decide (0 + Int.toNat p0 < a5)
 let z2 := fun i => [CV.int IntKind.i64 (IE.x (a1 (0 + i))), CV.int IntKind.i64 (IE.x (a2 (0 + i))), CV.int IntKind.i64 (IE.x (a3 (0 + i))), CV.int IntKind.i64 (IE.x (a4 (0 + i)))]
 let z3 := rdaA a0 (fun i => a1 (0 + i)) (fun i => a2 (0 + i)) (fun i => a3 (0 + i)) (fun i => a4 (0 + i))
 let z4 := a6 (0 + Int.toNat p0)
 let z5 := Ar.run .sub .i64 p0 1
 let z6 := a7 (0 + Int.toNat p0)
 let z7 := Cm.run .geq z6 (-10000000000)
 let z8 := Cm.run .leq z6 20000000000
 let z9 := Ar.run .add .i64 p0 1
 .ask (Cm.run .lss p0 (↑a5 : Int))
   (.must z0
   (.must (decide (p0 < (↑a5 : Int)))
   (.must z1
   (.must (decide (0 + a0 ≤ a0))
   (.must (ShapeOk [some IntKind.i64, some IntKind.i64, some IntKind.i64, some IntKind.i64] (tabOf a0 z2) z2)
   (.must (AF.fin z3)
   (.ask (Cm.run .geq z4 0)
   (.ask (Cm.run .leq z4 (Ar.run .sub .i64 (AF.val z3) 1))
   (.ask (Cm.run .gtr p0 0)
   (.must z0
   (.must (decide (p0 < (↑a5 : Int)))
   (.must z1
   (.must (decide (0 ≤ Ar.run .sub .i64 p0 1))
   (.must (decide (Ar.run .sub .i64 p0 1 < (↑a5 : Int)))
   (.must (decide (0 + Int.toNat z5 < a5))
   (.ask (Cm.run .leq z4 (a6 (0 + Int.toNat z5)))
   (.leaf (.done 2 []))
   (.must z0
   (.must (decide (p0 < (↑a5 : Int)))
   (.must z1
   (.ask z7
   (.ask z8
   (.leaf (.next (.n0 z9) []))
   (.leaf (.done 2 [])))
   (.leaf (.done 2 [])))))))))))))
   (.must z0
   (.must (decide (p0 < (↑a5 : Int)))
   (.must z1
   (.ask z7
   (.ask z8
   (.leaf (.next (.n0 z9) []))
   (.leaf (.done 2 [])))
   (.leaf (.done 2 [])))))))
   (.leaf (.done 2 [])))
   (.leaf (.done 2 [])))))))))
   (.leaf (.done 0 []))

noncomputable def rdsA (a0 : Nat) (a1 a2 a3 a4 : Nat → Int) (a5 : Nat) (a6 a7 : Nat → Int) : AF rdsN rdsR where
  code := rdsCode
  base := 2
  nt := 52
  m := 400
  un := []
  W := []
  h0 := [(0, ⟨.arg a0 4 (fun i => [.int .i64 (.x (a1 i)), .int .i64 (.x (a2 i)), .int .i64 (.x (a3 i)), .int .i64 (.x (a4 i))]) (fun _ => ⟨rfl, rfl⟩), 4, true, none⟩), (1, ⟨.arg a5 2 (fun i => [.int .i64 (.x (a6 i)), .int .i64 (.x (a7 i))]) (fun _ => ⟨rfl, rfl⟩), 2, true, none⟩)]
  args := [.sla 0 4 0 a0, .sla 1 2 0 a5]
  res := (Try.f36).results.toList
  path := fun a => match a with
   | .n0 p0 => [1, 1, 0, 1, 0]
  pd := fun a => match a with
   | .n0 p0 => ⟨[(0, .sla 0 4 0 a0), (1, .sla 1 2 0 a5), (5, .int .i64 (.x p0))], [], 2, []⟩
  D0 := rdsD0 a0 a1 a2 a3 a4 a5 a6 a7
  D := rdsD a0 a1 a2 a3 a4 a5 a6 a7
  rc := (fun v => .int .i64 (.x v))
  rh := (fun v => [])
  rn := (fun v => 2)
  rx := (fun v => [])
  rgo := (fun _ => none)
theorem rdsstart (a0 : Nat) (a1 a2 a3 a4 : Nat → Int) (a5 : Nat) (a6 a7 : Nat → Int) : AF.edgeOk (rdsA a0 a1 a2 a3 a4 a5 a6 a7) (ctxOf Try.prog memo0) (rdsD0 a0 a1 a2 a3 a4 a5 a6 a7) (AF.run0 (rdsA a0 a1 a2 a3 a4 a5 a6 a7) (ctxOf Try.prog (memoS 22 rdaP rdaF rdaW rdaH 1 memo0))) := by unfold AF.edgeOk; kernel_rfl
theorem rdsnode0 (a0 : Nat) (a1 a2 a3 a4 : Nat → Int) (a5 : Nat) (a6 a7 : Nat → Int) (p0 : Int) : AF.edgeOk (rdsA a0 a1 a2 a3 a4 a5 a6 a7) (ctxOf Try.prog memo0) (rdsD a0 a1 a2 a3 a4 a5 a6 a7 (.n0 p0)) (AF.runN (rdsA a0 a1 a2 a3 a4 a5 a6 a7) (ctxOf Try.prog (memoS 22 rdaP rdaF rdaW rdaH 1 memo0)) (.n0 p0)) := by unfold AF.edgeOk; kernel_rfl
theorem rdsok (a0 : Nat) (a1 a2 a3 a4 : Nat → Int) (a5 : Nat) (a6 a7 : Nat → Int) : (rdsA a0 a1 a2 a3 a4 a5 a6 a7).Ok Try.prog (ctxOf Try.prog (memoS 22 rdaP rdaF rdaW rdaH 1 memo0)) where
  regs := by kernel_rfl
  h0 := by kernel_rfl
  start := rdsstart a0 a1 a2 a3 a4 a5 a6 a7
  node := fun a _ => match a with
   | .n0 p0 => rdsnode0 a0 a1 a2 a3 a4 a5 a6 a7 p0
  pd := fun a => match a with
   | .n0 p0 => ⟨(fa_cons rfl (fa_cons rfl (fa_cons rfl fa_nil))), fa_nil, fa_nil, rfl⟩
  le := fun a => match a with
   | .n0 p0 => Nat.le_of_ble_eq_true rfl
  rd := fun v => ⟨⟨fa_nil, fa_nil, fa_nil, rfl⟩, rfl⟩
  wb := rfl
theorem rdshR {ρ : Env} (a0 : Nat) (a1 a2 a3 a4 : Nat → Int) (a5 : Nat) (a6 a7 : Nat → Int) (hM : MemoOk Try.prog (ctxOf Try.prog (memoS 22 rdaP rdaF rdaW rdaH 1 memo0)) ρ) : ∀ X a q n D, FxOk ρ X → X.base = (rdsA a0 a1 a2 a3 a4 a5 a6 a7).base → X.nt = (rdsA a0 a1 a2 a3 a4 a5 a6 a7).nt → X.W = (rdsA a0 a1 a2 a3 a4 a5 a6 a7).W → (rdsA a0 a1 a2 a3 a4 a5 a6 a7).rgo a = some q → q n = some D → (rdsA a0 a1 a2 a3 a4 a5 a6 a7).RangeOk Try.prog ρ X a D := AF.noRange rfl
theorem rdsctr {ρ : Env} (a0 : Nat) (a1 a2 a3 a4 : Nat → Int) (a5 : Nat) (a6 a7 : Nat → Int) {n : Nat} {v : rdsR} (hM : MemoOk Try.prog (ctxOf Try.prog (memoS 22 rdaP rdaF rdaW rdaH 1 memo0)) ρ) (hv : (rdsA a0 a1 a2 a3 a4 a5 a6 a7).run n = some v) :
    Ctr Try.prog ρ 36 (rdsA a0 a1 a2 a3 a4 a5 a6 a7).args (rdsA a0 a1 a2 a3 a4 a5 a6 a7).H0 (rdsA a0 a1 a2 a3 a4 a5 a6 a7).base (rdsA a0 a1 a2 a3 a4 a5 a6 a7).W ((rdsA a0 a1 a2 a3 a4 a5 a6 a7).rc v) (putH (rdsA a0 a1 a2 a3 a4 a5 a6 a7).H0 ((rdsA a0 a1 a2 a3 a4 a5 a6 a7).rh v ++ (rdsA a0 a1 a2 a3 a4 a5 a6 a7).rx v)) ((rdsA a0 a1 a2 a3 a4 a5 a6 a7).rn v) :=
  AF.ctr try_ok hM (rdsok a0 a1 a2 a3 a4 a5 a6 a7) (fn := Try.f36) Try.func36 rfl rfl (Nat.le_of_ble_eq_true rfl) rfl (rdshR a0 a1 a2 a3 a4 a5 a6 a7 hM) hv
theorem rdsmem {ρ : Env} : MemoOk Try.prog (ctxOf Try.prog (memoS 22 rdaP rdaF rdaW rdaH 1 memo0)) ρ := (memoS_ok (rdaknown rdamem) memo0_ok)
abbrev rdsP : List AQ := [.rows [some .i64, some .i64, some .i64, some .i64], .rows [some .i64, some .i64]]
noncomputable def rdsF (v : AW) : AF rdsN rdsR := rdsA (v.t.getD 0 .none).n ((v.t.getD 0 .none).c 0) ((v.t.getD 0 .none).c 1) ((v.t.getD 0 .none).c 2) ((v.t.getD 0 .none).c 3) (v.t.getD 1 .none).n ((v.t.getD 1 .none).c 0) ((v.t.getD 1 .none).c 1)
noncomputable def rdsW : rdsR → CV := fun v => .int .i64 (.x v)
noncomputable def rdsH : rdsR → List (Nat × Blk) := fun v => []
instance : Inhabited rdsR := ⟨0⟩
theorem rdsknown {ρ : Env} (hM : MemoOk Try.prog (ctxOf Try.prog (memoS 22 rdaP rdaF rdaW rdaH 1 memo0)) ρ) : KnownS Try.prog ρ 36 rdsP rdsF rdsW rdsH 2 where
  fn := ⟨Try.f36, Try.func36, rfl⟩
  le := Nat.le_of_ble_eq_true rfl
  full := fun r => rfl
  rg := fun r => rfl
  hg := fun r => fa_nil
  ctr := fun v n r h => rdsctr (v.t.getD 0 .none).n ((v.t.getD 0 .none).c 0) ((v.t.getD 0 .none).c 1) ((v.t.getD 0 .none).c 2) ((v.t.getD 0 .none).c 3) (v.t.getD 1 .none).n ((v.t.getD 1 .none).c 0) ((v.t.getD 1 .none).c 1) hM h
end Go.Proofs.Ythagjhadjpangaa.Cx

/- acme/acmeref07.Pieces as an automaton. Made by tools/cxauto.py. -/
namespace Go.Proofs.Ythagjhadjpangaa.Cx
set_option linter.unusedVariables false
set_option linter.unusedSimpArgs false
set_option maxRecDepth 100000
open Go Go.Proofs Go.RowKit
noncomputable abbrev rdcCode : Code := funcCode Try.f38
inductive rdcN where
  | n0 (p0 : Int)
abbrev rdcR := Bool
noncomputable def rdcD0 (a0 : Nat) (a1 a2 a3 a4 : Nat → Int) (a5 : Nat) (a6 : Nat → Int) : DD (Lf rdcN rdcR) :=
 .leaf (.next (.n0 0) [])

noncomputable def rdcD (a0 : Nat) (a1 a2 a3 a4 : Nat → Int) (a5 : Nat) (a6 : Nat → Int) : rdcN → DD (Lf rdcN rdcR)
 | .n0 p0 =>
 let z0 := decide (0 ≤ p0)
 let z1 := decide (0 + Int.toNat p0 < a5)
 let z2 := fun i => [CV.int IntKind.i64 (IE.x (a1 (0 + i))), CV.int IntKind.i64 (IE.x (a2 (0 + i))), CV.int IntKind.i64 (IE.x (a3 (0 + i))), CV.int IntKind.i64 (IE.x (a4 (0 + i)))]
 let z3 := rdaA a0 (fun i => a1 (0 + i)) (fun i => a2 (0 + i)) (fun i => a3 (0 + i)) (fun i => a4 (0 + i))
 let z4 := a6 (0 + Int.toNat p0)
 let z5 := Ar.run .sub .i64 p0 1
 let z6 := Ar.run .add .i64 p0 1
 .ask (Cm.run .lss p0 (↑a5 : Int))
   (.must z0
   (.must (decide (p0 < (↑a5 : Int)))
   (.must z1
   (.must (decide (0 + a0 ≤ a0))
   (.must (ShapeOk [some IntKind.i64, some IntKind.i64, some IntKind.i64, some IntKind.i64] (tabOf a0 z2) z2)
   (.must (AF.fin z3)
   (.ask (Cm.run .geq z4 0)
   (.ask (Cm.run .leq z4 (Ar.run .sub .i64 (AF.val z3) 1))
   (.ask (Cm.run .gtr p0 0)
   (.must z0
   (.must (decide (p0 < (↑a5 : Int)))
   (.must z1
   (.must (decide (0 ≤ Ar.run .sub .i64 p0 1))
   (.must (decide (Ar.run .sub .i64 p0 1 < (↑a5 : Int)))
   (.must (decide (0 + Int.toNat z5 < a5))
   (.ask (Cm.run .leq z4 (a6 (0 + Int.toNat z5)))
   (.leaf (.done false []))
   (.leaf (.next (.n0 z6) [])))))))))
   (.leaf (.next (.n0 z6) [])))
   (.leaf (.done false [])))
   (.leaf (.done false [])))))))))
   (.leaf (.done true []))

noncomputable def rdcA (a0 : Nat) (a1 a2 a3 a4 : Nat → Int) (a5 : Nat) (a6 : Nat → Int) : AF rdcN rdcR where
  code := rdcCode
  base := 2
  nt := 37
  m := 400
  un := []
  W := []
  h0 := [(0, ⟨.arg a0 4 (fun i => [.int .i64 (.x (a1 i)), .int .i64 (.x (a2 i)), .int .i64 (.x (a3 i)), .int .i64 (.x (a4 i))]) (fun _ => ⟨rfl, rfl⟩), 4, true, none⟩), (1, ⟨.arg a5 1 (fun i => [.int .i64 (.x (a6 i))]) (fun _ => ⟨rfl, rfl⟩), 1, true, none⟩)]
  args := [.sla 0 4 0 a0, .sla 1 1 0 a5]
  res := (Try.f38).results.toList
  path := fun a => match a with
   | .n0 p0 => [1, 0, 1, 0]
  pd := fun a => match a with
   | .n0 p0 => ⟨[(0, .sla 0 4 0 a0), (1, .sla 1 1 0 a5), (5, .int .i64 (.x p0))], [], 2, []⟩
  D0 := rdcD0 a0 a1 a2 a3 a4 a5 a6
  D := rdcD a0 a1 a2 a3 a4 a5 a6
  rc := (fun v => .bool (.x v))
  rh := (fun v => [])
  rn := (fun v => 2)
  rx := (fun v => [])
  rgo := (fun _ => none)
theorem rdcstart (a0 : Nat) (a1 a2 a3 a4 : Nat → Int) (a5 : Nat) (a6 : Nat → Int) : AF.edgeOk (rdcA a0 a1 a2 a3 a4 a5 a6) (ctxOf Try.prog memo0) (rdcD0 a0 a1 a2 a3 a4 a5 a6) (AF.run0 (rdcA a0 a1 a2 a3 a4 a5 a6) (ctxOf Try.prog (memoS 22 rdaP rdaF rdaW rdaH 1 memo0))) := by unfold AF.edgeOk; kernel_rfl
theorem rdcnode0 (a0 : Nat) (a1 a2 a3 a4 : Nat → Int) (a5 : Nat) (a6 : Nat → Int) (p0 : Int) : AF.edgeOk (rdcA a0 a1 a2 a3 a4 a5 a6) (ctxOf Try.prog memo0) (rdcD a0 a1 a2 a3 a4 a5 a6 (.n0 p0)) (AF.runN (rdcA a0 a1 a2 a3 a4 a5 a6) (ctxOf Try.prog (memoS 22 rdaP rdaF rdaW rdaH 1 memo0)) (.n0 p0)) := by unfold AF.edgeOk; kernel_rfl
theorem rdcok (a0 : Nat) (a1 a2 a3 a4 : Nat → Int) (a5 : Nat) (a6 : Nat → Int) : (rdcA a0 a1 a2 a3 a4 a5 a6).Ok Try.prog (ctxOf Try.prog (memoS 22 rdaP rdaF rdaW rdaH 1 memo0)) where
  regs := by kernel_rfl
  h0 := by kernel_rfl
  start := rdcstart a0 a1 a2 a3 a4 a5 a6
  node := fun a _ => match a with
   | .n0 p0 => rdcnode0 a0 a1 a2 a3 a4 a5 a6 p0
  pd := fun a => match a with
   | .n0 p0 => ⟨(fa_cons rfl (fa_cons rfl (fa_cons rfl fa_nil))), fa_nil, fa_nil, rfl⟩
  le := fun a => match a with
   | .n0 p0 => Nat.le_of_ble_eq_true rfl
  rd := fun v => ⟨⟨fa_nil, fa_nil, fa_nil, rfl⟩, rfl⟩
  wb := rfl
theorem rdchR {ρ : Env} (a0 : Nat) (a1 a2 a3 a4 : Nat → Int) (a5 : Nat) (a6 : Nat → Int) (hM : MemoOk Try.prog (ctxOf Try.prog (memoS 22 rdaP rdaF rdaW rdaH 1 memo0)) ρ) : ∀ X a q n D, FxOk ρ X → X.base = (rdcA a0 a1 a2 a3 a4 a5 a6).base → X.nt = (rdcA a0 a1 a2 a3 a4 a5 a6).nt → X.W = (rdcA a0 a1 a2 a3 a4 a5 a6).W → (rdcA a0 a1 a2 a3 a4 a5 a6).rgo a = some q → q n = some D → (rdcA a0 a1 a2 a3 a4 a5 a6).RangeOk Try.prog ρ X a D := AF.noRange rfl
theorem rdcctr {ρ : Env} (a0 : Nat) (a1 a2 a3 a4 : Nat → Int) (a5 : Nat) (a6 : Nat → Int) {n : Nat} {v : rdcR} (hM : MemoOk Try.prog (ctxOf Try.prog (memoS 22 rdaP rdaF rdaW rdaH 1 memo0)) ρ) (hv : (rdcA a0 a1 a2 a3 a4 a5 a6).run n = some v) :
    Ctr Try.prog ρ 38 (rdcA a0 a1 a2 a3 a4 a5 a6).args (rdcA a0 a1 a2 a3 a4 a5 a6).H0 (rdcA a0 a1 a2 a3 a4 a5 a6).base (rdcA a0 a1 a2 a3 a4 a5 a6).W ((rdcA a0 a1 a2 a3 a4 a5 a6).rc v) (putH (rdcA a0 a1 a2 a3 a4 a5 a6).H0 ((rdcA a0 a1 a2 a3 a4 a5 a6).rh v ++ (rdcA a0 a1 a2 a3 a4 a5 a6).rx v)) ((rdcA a0 a1 a2 a3 a4 a5 a6).rn v) :=
  AF.ctr try_ok hM (rdcok a0 a1 a2 a3 a4 a5 a6) (fn := Try.f38) Try.func38 rfl rfl (Nat.le_of_ble_eq_true rfl) rfl (rdchR a0 a1 a2 a3 a4 a5 a6 hM) hv
theorem rdcmem {ρ : Env} : MemoOk Try.prog (ctxOf Try.prog (memoS 22 rdaP rdaF rdaW rdaH 1 memo0)) ρ := (memoS_ok (rdaknown rdamem) memo0_ok)
abbrev rdcP : List AQ := [.rows [some .i64, some .i64, some .i64, some .i64], .rows [some .i64]]
noncomputable def rdcF (v : AW) : AF rdcN rdcR := rdcA (v.t.getD 0 .none).n ((v.t.getD 0 .none).c 0) ((v.t.getD 0 .none).c 1) ((v.t.getD 0 .none).c 2) ((v.t.getD 0 .none).c 3) (v.t.getD 1 .none).n ((v.t.getD 1 .none).c 0)
noncomputable def rdcW : rdcR → CV := fun v => .bool (.x v)
noncomputable def rdcH : rdcR → List (Nat × Blk) := fun v => []
instance : Inhabited rdcR := ⟨false⟩
theorem rdcknown {ρ : Env} (hM : MemoOk Try.prog (ctxOf Try.prog (memoS 22 rdaP rdaF rdaW rdaH 1 memo0)) ρ) : KnownS Try.prog ρ 38 rdcP rdcF rdcW rdcH 2 where
  fn := ⟨Try.f38, Try.func38, rfl⟩
  le := Nat.le_of_ble_eq_true rfl
  full := fun r => rfl
  rg := fun r => rfl
  hg := fun r => fa_nil
  ctr := fun v n r h => rdcctr (v.t.getD 0 .none).n ((v.t.getD 0 .none).c 0) ((v.t.getD 0 .none).c 1) ((v.t.getD 0 .none).c 2) ((v.t.getD 0 .none).c 3) (v.t.getD 1 .none).n ((v.t.getD 1 .none).c 0) hM h
end Go.Proofs.Ythagjhadjpangaa.Cx

/- acme/die.Proves as an automaton. Made by tools/cxauto.py. -/
namespace Go.Proofs.Ythagjhadjpangaa.Cx
set_option linter.unusedVariables false
set_option linter.unusedSimpArgs false
set_option maxRecDepth 100000
open Go Go.Proofs Go.RowKit
noncomputable abbrev dprCode : Code := funcCode Try.f35
inductive dprN where
  | n0 (p0 : Int) (p1 : Bool) (p2 p3 p4 p5 : Int) (p6 p7 : Nat) (p8 : Int)
abbrev dprR := Int × Int
noncomputable def dprD0 (a0 : Bool) (a1 a2 a3 a4 : Int) (a5 : Nat) (a6 a7 : Nat → Int) (a8 : Nat) (a9 a10 a11 a12 : Nat → Int) (a13 : Nat) (a14 : Nat → Int) : DD (Lf dprN dprR) :=
 let z0 := fun i => [CV.int IntKind.i64 (IE.x (a6 (0 + i))), CV.int IntKind.i64 (IE.x (a7 (0 + i)))]
 let z1 := fun i => [CV.int IntKind.i64 (IE.x (a9 (0 + i))), CV.int IntKind.i64 (IE.x (a10 (0 + i))), CV.int IntKind.i64 (IE.x (a11 (0 + i))), CV.int IntKind.i64 (IE.x (a12 (0 + i)))]
 let z2 := fun i => a6 (0 + i)
 let z3 := fun i => a7 (0 + i)
 let z4 := fun i => a9 (0 + i)
 let z5 := fun i => a10 (0 + i)
 let z6 := fun i => a11 (0 + i)
 let z7 := fun i => a12 (0 + i)
 let z8 := dshA a0 a1 a2 a3 a4 a5 z2 z3 a8 z4 z5 z6 z7
 let z9 := AF.val z8
 let z10 := dshw5 z9
 let z11 := dshw6 z9
 let z12 := fun i => [CV.int IntKind.i64 (IE.x (a14 (0 + i)))]
 let z13 := dshw0 z9
 let z14 := dshw1 z9
 let z15 := dshw2 z9
 let z16 := dshw3 z9
 let z17 := dshw4 z9
 let z18 := dshw7 z9
 let z19 := dioA z13 z14 z15 z16 z17 z10 z2 z3 z11 z4 z5 z6 z7 z18 a13 (fun i => a14 (0 + i))
 .must (decide (0 + a5 ≤ a5))
   (.must (ShapeOk [some IntKind.i64, some IntKind.i64] (tabOf a5 z0) z0)
   (.must (decide (0 + a8 ≤ a8))
   (.must (ShapeOk [some IntKind.i64, some IntKind.i64, some IntKind.i64, some IntKind.i64] (tabOf a8 z1) z1)
   (.must (AF.fin z8)
   (.ask (Cm.run .neq (dshw8 z9) 0)
   (.leaf (.done (0, dshw8 z9) []))
   (.ask (Cm.run .gtr ((↑a13 : Int)) 1000)
   (.leaf (.done (0, 5) []))
   (.must (decide (0 + dshw5 z9 ≤ a5))
   (.must (ShapeOk [some IntKind.i64, some IntKind.i64] (tabOf z10 z0) z0)
   (.must (decide (0 + dshw6 z9 ≤ a8))
   (.must (ShapeOk [some IntKind.i64, some IntKind.i64, some IntKind.i64, some IntKind.i64] (tabOf z11 z1) z1)
   (.must (decide (0 + a13 ≤ a13))
   (.must (ShapeOk [some IntKind.i64] (tabOf a13 z12) z12)
   (.must (AF.fin z19)
   (.ask (!AF.val z19)
   (.leaf (.done (0, 2) []))
   (.leaf (.next (.n0 0 z13 z14 z15 z16 z17 z10 z11 z18) [4]))))))))))))))))

noncomputable def dprD (a0 : Bool) (a1 a2 a3 a4 : Int) (a5 : Nat) (a6 a7 : Nat → Int) (a8 : Nat) (a9 a10 a11 a12 : Nat → Int) (a13 : Nat) (a14 : Nat → Int) : dprN → DD (Lf dprN dprR)
 | .n0 p0 p1 p2 p3 p4 p5 p6 p7 p8 =>
 let z0 := Ar.run .add .i64 p0 1
 let z1 := fun i => [CV.int IntKind.i64 (IE.x (a6 (0 + i))), CV.int IntKind.i64 (IE.x (a7 (0 + i)))]
 let z2 := fun i => [CV.int IntKind.i64 (IE.x (a9 (0 + i))), CV.int IntKind.i64 (IE.x (a10 (0 + i))), CV.int IntKind.i64 (IE.x (a11 (0 + i))), CV.int IntKind.i64 (IE.x (a12 (0 + i)))]
 let z3 := Ar.run .add .i64 (a14 (0 + Int.toNat z0)) 1
 let z4 := drcA p1 p2 p3 p4 p5 p6 (fun i => a6 (0 + i)) (fun i => a7 (0 + i)) p7 (fun i => a9 (0 + i)) (fun i => a10 (0 + i)) (fun i => a11 (0 + i)) (fun i => a12 (0 + i)) p8 (-10000000000) 20000000000 (a14 (0 + Int.toNat p0)) z3
 .ask (Cm.run .lss p0 (Ar.run .sub .i64 ((↑a13 : Int)) 1))
   (.must (decide (0 ≤ Ar.run .add .i64 p0 1))
   (.must (decide (Ar.run .add .i64 p0 1 < (↑a13 : Int)))
   (.must (decide (0 + Int.toNat z0 < a13))
   (.must (decide (0 ≤ p0))
   (.must (decide (p0 < (↑a13 : Int)))
   (.must (decide (0 + Int.toNat p0 < a13))
   (.must (decide (0 + p6 ≤ a5))
   (.must (ShapeOk [some IntKind.i64, some IntKind.i64] (tabOf p6 z1) z1)
   (.must (decide (0 + p7 ≤ a8))
   (.must (ShapeOk [some IntKind.i64, some IntKind.i64, some IntKind.i64, some IntKind.i64] (tabOf p7 z2) z2)
   (.must (AF.fin z4)
   (.ask (Cm.run .eql (Prod.snd (Prod.snd (AF.val z4))) z3)
   (.leaf (.done (p0, 0) []))
   (.leaf (.next (.n0 z0 p1 p2 p3 p4 p5 p6 p7 p8) [3]))))))))))))))
   (.leaf (.done (-1, 0) []))

noncomputable def dprA (a0 : Bool) (a1 a2 a3 a4 : Int) (a5 : Nat) (a6 a7 : Nat → Int) (a8 : Nat) (a9 a10 a11 a12 : Nat → Int) (a13 : Nat) (a14 : Nat → Int) : AF dprN dprR where
  code := dprCode
  base := 3
  nt := 58
  m := 400
  un := []
  W := []
  h0 := [(0, ⟨.arg a5 2 (fun i => [.int .i64 (.x (a6 i)), .int .i64 (.x (a7 i))]) (fun _ => ⟨rfl, rfl⟩), 2, true, none⟩), (1, ⟨.arg a8 4 (fun i => [.int .i64 (.x (a9 i)), .int .i64 (.x (a10 i)), .int .i64 (.x (a11 i)), .int .i64 (.x (a12 i))]) (fun _ => ⟨rfl, rfl⟩), 4, true, none⟩), (2, ⟨.arg a13 1 (fun i => [.int .i64 (.x (a14 i))]) (fun _ => ⟨rfl, rfl⟩), 1, true, none⟩)]
  args := [.agg [.bool (.x a0), .int .i64 (.x a1), .int .i64 (.x a2), .int .i64 (.x a3), .int .i64 (.x a4), .sla 0 2 0 a5], .sla 1 4 0 a8, .sla 2 1 0 a13]
  res := (Try.f35).results.toList
  path := fun a => match a with
   | .n0 p0 p1 p2 p3 p4 p5 p6 p7 p8 => [1, 1, 1, 1, 1, 0, 1, 0]
  pd := fun a => match a with
   | .n0 p0 p1 p2 p3 p4 p5 p6 p7 p8 => ⟨[(2, .sla 2 1 0 a13), (8, .ptr (some (3, 0))), (32, .int .i64 (.x (Ar.run .sub .i64 (↑a13) 1))), (33, .int .i64 (.x p0))], [(3, ⟨.lit [.bool (.x p1), .int .i64 (.x p2), .int .i64 (.x p3), .int .i64 (.x p4), .int .i64 (.x p5), .sla 0 2 0 p6, .sla 1 4 0 p7, .int .i64 (.x p8)], 0, true, none⟩)], 4, []⟩
  D0 := dprD0 a0 a1 a2 a3 a4 a5 a6 a7 a8 a9 a10 a11 a12 a13 a14
  D := dprD a0 a1 a2 a3 a4 a5 a6 a7 a8 a9 a10 a11 a12 a13 a14
  rc := (fun v => .tup [.int .i64 (.x v.1), .int .i64 (.x v.2)])
  rh := (fun v => [])
  rn := (fun v => 3)
  rx := (fun v => [])
  rgo := (fun _ => none)
theorem dprstart (a0 : Bool) (a1 a2 a3 a4 : Int) (a5 : Nat) (a6 a7 : Nat → Int) (a8 : Nat) (a9 a10 a11 a12 : Nat → Int) (a13 : Nat) (a14 : Nat → Int) : AF.edgeOk (dprA a0 a1 a2 a3 a4 a5 a6 a7 a8 a9 a10 a11 a12 a13 a14) (ctxOf Try.prog memo0) (dprD0 a0 a1 a2 a3 a4 a5 a6 a7 a8 a9 a10 a11 a12 a13 a14) (AF.run0 (dprA a0 a1 a2 a3 a4 a5 a6 a7 a8 a9 a10 a11 a12 a13 a14) (ctxOf Try.prog (memoS 76 dioP dioF dioW dioH 3 (memoS 67 drcP drcF drcW drcH 2 (memoP 63 dshP dshF dshW dshH 2 memo0))))) := by unfold AF.edgeOk; kernel_rfl
theorem dprnode0 (a0 : Bool) (a1 a2 a3 a4 : Int) (a5 : Nat) (a6 a7 : Nat → Int) (a8 : Nat) (a9 a10 a11 a12 : Nat → Int) (a13 : Nat) (a14 : Nat → Int) (p0 : Int) (p1 : Bool) (p2 p3 p4 p5 : Int) (p6 p7 : Nat) (p8 : Int) : AF.edgeOk (dprA a0 a1 a2 a3 a4 a5 a6 a7 a8 a9 a10 a11 a12 a13 a14) (ctxOf Try.prog memo0) (dprD a0 a1 a2 a3 a4 a5 a6 a7 a8 a9 a10 a11 a12 a13 a14 (.n0 p0 p1 p2 p3 p4 p5 p6 p7 p8)) (AF.runN (dprA a0 a1 a2 a3 a4 a5 a6 a7 a8 a9 a10 a11 a12 a13 a14) (ctxOf Try.prog (memoS 76 dioP dioF dioW dioH 3 (memoS 67 drcP drcF drcW drcH 2 (memoP 63 dshP dshF dshW dshH 2 memo0)))) (.n0 p0 p1 p2 p3 p4 p5 p6 p7 p8)) := by unfold AF.edgeOk; kernel_rfl
theorem dprok (a0 : Bool) (a1 a2 a3 a4 : Int) (a5 : Nat) (a6 a7 : Nat → Int) (a8 : Nat) (a9 a10 a11 a12 : Nat → Int) (a13 : Nat) (a14 : Nat → Int) : (dprA a0 a1 a2 a3 a4 a5 a6 a7 a8 a9 a10 a11 a12 a13 a14).Ok Try.prog (ctxOf Try.prog (memoS 76 dioP dioF dioW dioH 3 (memoS 67 drcP drcF drcW drcH 2 (memoP 63 dshP dshF dshW dshH 2 memo0)))) where
  regs := by kernel_rfl
  h0 := by kernel_rfl
  start := dprstart a0 a1 a2 a3 a4 a5 a6 a7 a8 a9 a10 a11 a12 a13 a14
  node := fun a _ => match a with
   | .n0 p0 p1 p2 p3 p4 p5 p6 p7 p8 => dprnode0 a0 a1 a2 a3 a4 a5 a6 a7 a8 a9 a10 a11 a12 a13 a14 p0 p1 p2 p3 p4 p5 p6 p7 p8
  pd := fun a => match a with
   | .n0 p0 p1 p2 p3 p4 p5 p6 p7 p8 => ⟨(fa_cons rfl (fa_cons rfl (fa_cons rfl (fa_cons rfl fa_nil)))), (fa_cons ⟨.inl (Nat.le_of_ble_eq_true rfl), rfl, rfl⟩ fa_nil), fa_nil, rfl⟩
  le := fun a => match a with
   | .n0 p0 p1 p2 p3 p4 p5 p6 p7 p8 => Nat.le_of_ble_eq_true rfl
  rd := fun v => ⟨⟨fa_nil, fa_nil, fa_nil, rfl⟩, rfl⟩
  wb := rfl
theorem dprhR {ρ : Env} (a0 : Bool) (a1 a2 a3 a4 : Int) (a5 : Nat) (a6 a7 : Nat → Int) (a8 : Nat) (a9 a10 a11 a12 : Nat → Int) (a13 : Nat) (a14 : Nat → Int) (hM : MemoOk Try.prog (ctxOf Try.prog (memoS 76 dioP dioF dioW dioH 3 (memoS 67 drcP drcF drcW drcH 2 (memoP 63 dshP dshF dshW dshH 2 memo0)))) ρ) : ∀ X a q n D, FxOk ρ X → X.base = (dprA a0 a1 a2 a3 a4 a5 a6 a7 a8 a9 a10 a11 a12 a13 a14).base → X.nt = (dprA a0 a1 a2 a3 a4 a5 a6 a7 a8 a9 a10 a11 a12 a13 a14).nt → X.W = (dprA a0 a1 a2 a3 a4 a5 a6 a7 a8 a9 a10 a11 a12 a13 a14).W → (dprA a0 a1 a2 a3 a4 a5 a6 a7 a8 a9 a10 a11 a12 a13 a14).rgo a = some q → q n = some D → (dprA a0 a1 a2 a3 a4 a5 a6 a7 a8 a9 a10 a11 a12 a13 a14).RangeOk Try.prog ρ X a D := AF.noRange rfl
theorem dprctr {ρ : Env} (a0 : Bool) (a1 a2 a3 a4 : Int) (a5 : Nat) (a6 a7 : Nat → Int) (a8 : Nat) (a9 a10 a11 a12 : Nat → Int) (a13 : Nat) (a14 : Nat → Int) {n : Nat} {v : dprR} (hM : MemoOk Try.prog (ctxOf Try.prog (memoS 76 dioP dioF dioW dioH 3 (memoS 67 drcP drcF drcW drcH 2 (memoP 63 dshP dshF dshW dshH 2 memo0)))) ρ) (hv : (dprA a0 a1 a2 a3 a4 a5 a6 a7 a8 a9 a10 a11 a12 a13 a14).run n = some v) :
    Ctr Try.prog ρ 35 (dprA a0 a1 a2 a3 a4 a5 a6 a7 a8 a9 a10 a11 a12 a13 a14).args (dprA a0 a1 a2 a3 a4 a5 a6 a7 a8 a9 a10 a11 a12 a13 a14).H0 (dprA a0 a1 a2 a3 a4 a5 a6 a7 a8 a9 a10 a11 a12 a13 a14).base (dprA a0 a1 a2 a3 a4 a5 a6 a7 a8 a9 a10 a11 a12 a13 a14).W ((dprA a0 a1 a2 a3 a4 a5 a6 a7 a8 a9 a10 a11 a12 a13 a14).rc v) (putH (dprA a0 a1 a2 a3 a4 a5 a6 a7 a8 a9 a10 a11 a12 a13 a14).H0 ((dprA a0 a1 a2 a3 a4 a5 a6 a7 a8 a9 a10 a11 a12 a13 a14).rh v ++ (dprA a0 a1 a2 a3 a4 a5 a6 a7 a8 a9 a10 a11 a12 a13 a14).rx v)) ((dprA a0 a1 a2 a3 a4 a5 a6 a7 a8 a9 a10 a11 a12 a13 a14).rn v) :=
  AF.ctr try_ok hM (dprok a0 a1 a2 a3 a4 a5 a6 a7 a8 a9 a10 a11 a12 a13 a14) (fn := Try.f35) Try.func35 rfl rfl (Nat.le_of_ble_eq_true rfl) rfl (dprhR a0 a1 a2 a3 a4 a5 a6 a7 a8 a9 a10 a11 a12 a13 a14 hM) hv
theorem dprmem {ρ : Env} : MemoOk Try.prog (ctxOf Try.prog (memoS 76 dioP dioF dioW dioH 3 (memoS 67 drcP drcF drcW drcH 2 (memoP 63 dshP dshF dshW dshH 2 memo0)))) ρ := (memoS_ok (dioknown diomem) (memoS_ok (drcknown drcmem) (memoP_ok (dshknown dshmem) memo0_ok)))
abbrev dprP : List AQ := [.agg [.bool, .int .i64, .int .i64, .int .i64, .int .i64, .rows [some .i64, some .i64]], .rows [some .i64, some .i64, some .i64, some .i64], .rows [some .i64]]
noncomputable def dprF (v : AW) : AF dprN dprR := dprA (v.b.getD 0 false) (v.i.getD 0 0) (v.i.getD 1 0) (v.i.getD 2 0) (v.i.getD 3 0) (v.t.getD 0 .none).n ((v.t.getD 0 .none).c 0) ((v.t.getD 0 .none).c 1) (v.t.getD 1 .none).n ((v.t.getD 1 .none).c 0) ((v.t.getD 1 .none).c 1) ((v.t.getD 1 .none).c 2) ((v.t.getD 1 .none).c 3) (v.t.getD 2 .none).n ((v.t.getD 2 .none).c 0)
noncomputable def dprW : dprR → CV := fun v => .tup [.int .i64 (.x v.1), .int .i64 (.x v.2)]
noncomputable def dprH : dprR → List (Nat × Blk) := fun v => []
instance : Inhabited dprR := ⟨(0, 0)⟩
theorem dprknown {ρ : Env} (hM : MemoOk Try.prog (ctxOf Try.prog (memoS 76 dioP dioF dioW dioH 3 (memoS 67 drcP drcF drcW drcH 2 (memoP 63 dshP dshF dshW dshH 2 memo0)))) ρ) : KnownS Try.prog ρ 35 dprP dprF dprW dprH 3 where
  fn := ⟨Try.f35, Try.func35, rfl⟩
  le := Nat.le_of_ble_eq_true rfl
  full := fun r => rfl
  rg := fun r => rfl
  hg := fun r => fa_nil
  ctr := fun v n r h => dprctr (v.b.getD 0 false) (v.i.getD 0 0) (v.i.getD 1 0) (v.i.getD 2 0) (v.i.getD 3 0) (v.t.getD 0 .none).n ((v.t.getD 0 .none).c 0) ((v.t.getD 0 .none).c 1) (v.t.getD 1 .none).n ((v.t.getD 1 .none).c 0) ((v.t.getD 1 .none).c 1) ((v.t.getD 1 .none).c 2) ((v.t.getD 1 .none).c 3) (v.t.getD 2 .none).n ((v.t.getD 2 .none).c 0) hM h
end Go.Proofs.Ythagjhadjpangaa.Cx

/- acme/acmeref07.Proves as an automaton. Made by tools/cxauto.py. -/
namespace Go.Proofs.Ythagjhadjpangaa.Cx
set_option linter.unusedVariables false
set_option linter.unusedSimpArgs false
set_option maxRecDepth 100000
open Go Go.Proofs Go.RowKit
noncomputable abbrev rdqCode : Code := funcCode Try.f39
inductive rdqN where
  | n0 (p0 : Int)
abbrev rdqR := Int
noncomputable def rdqD0 (a0 : Bool) (a1 a2 a3 a4 : Int) (a5 : Nat) (a6 a7 : Nat → Int) (a8 : Nat) (a9 a10 a11 a12 : Nat → Int) (a13 : Nat) (a14 : Nat → Int) : DD (Lf rdqN rdqR) :=
 .leaf (.next (.n0 0) [3])

noncomputable def rdqD (a0 : Bool) (a1 a2 a3 a4 : Int) (a5 : Nat) (a6 a7 : Nat → Int) (a8 : Nat) (a9 a10 a11 a12 : Nat → Int) (a13 : Nat) (a14 : Nat → Int) : rdqN → DD (Lf rdqN rdqR)
 | .n0 p0 =>
 let z0 := Ar.run .add .i64 p0 1
 let z1 := fun i => [CV.int IntKind.i64 (IE.x (a6 (0 + i))), CV.int IntKind.i64 (IE.x (a7 (0 + i)))]
 let z2 := fun i => [CV.int IntKind.i64 (IE.x (a9 (0 + i))), CV.int IntKind.i64 (IE.x (a10 (0 + i))), CV.int IntKind.i64 (IE.x (a11 (0 + i))), CV.int IntKind.i64 (IE.x (a12 (0 + i)))]
 let z3 := rdtA a0 a1 a2 a3 a4 a5 (fun i => a6 (0 + i)) (fun i => a7 (0 + i)) a8 (fun i => a9 (0 + i)) (fun i => a10 (0 + i)) (fun i => a11 (0 + i)) (fun i => a12 (0 + i)) (a14 (0 + Int.toNat p0)) (Ar.run .add .i64 (a14 (0 + Int.toNat z0)) 1)
 let z4 := AF.val z3
 .ask (Cm.run .lss z0 (↑a13 : Int))
   (.must (decide (0 ≤ p0))
   (.must (decide (p0 < (↑a13 : Int)))
   (.must (decide (0 + Int.toNat p0 < a13))
   (.must (decide (0 ≤ Ar.run .add .i64 p0 1))
   (.must (decide (Ar.run .add .i64 p0 1 < (↑a13 : Int)))
   (.must (decide (0 + Int.toNat z0 < a13))
   (.must (decide (0 + a5 ≤ a5))
   (.must (ShapeOk [some IntKind.i64, some IntKind.i64] (tabOf a5 z1) z1)
   (.must (decide (0 + a8 ≤ a8))
   (.must (ShapeOk [some IntKind.i64, some IntKind.i64, some IntKind.i64, some IntKind.i64] (tabOf a8 z2) z2)
   (.must (AF.fin z3)
   (.ask (Cm.run .leq (Prod.fst z4) (Prod.snd z4))
   (.leaf (.done p0 []))
   (.leaf (.next (.n0 z0) [3]))))))))))))))
   (.leaf (.done (-1) []))

noncomputable def rdqA (a0 : Bool) (a1 a2 a3 a4 : Int) (a5 : Nat) (a6 a7 : Nat → Int) (a8 : Nat) (a9 a10 a11 a12 : Nat → Int) (a13 : Nat) (a14 : Nat → Int) : AF rdqN rdqR where
  code := rdqCode
  base := 3
  nt := 29
  m := 400
  un := []
  W := []
  h0 := [(0, ⟨.arg a5 2 (fun i => [.int .i64 (.x (a6 i)), .int .i64 (.x (a7 i))]) (fun _ => ⟨rfl, rfl⟩), 2, true, none⟩), (1, ⟨.arg a8 4 (fun i => [.int .i64 (.x (a9 i)), .int .i64 (.x (a10 i)), .int .i64 (.x (a11 i)), .int .i64 (.x (a12 i))]) (fun _ => ⟨rfl, rfl⟩), 4, true, none⟩), (2, ⟨.arg a13 1 (fun i => [.int .i64 (.x (a14 i))]) (fun _ => ⟨rfl, rfl⟩), 1, true, none⟩)]
  args := [.agg [.bool (.x a0), .int .i64 (.x a1), .int .i64 (.x a2), .int .i64 (.x a3), .int .i64 (.x a4), .sla 0 2 0 a5], .sla 1 4 0 a8, .sla 2 1 0 a13]
  res := (Try.f39).results.toList
  path := fun a => match a with
   | .n0 p0 => [1, 0, 1, 0]
  pd := fun a => match a with
   | .n0 p0 => ⟨[(1, .sla 1 4 0 a8), (2, .sla 2 1 0 a13), (3, .ptr (some (3, 0))), (7, .int .i64 (.x p0))], [(3, ⟨.lit [.bool (.x a0), .int .i64 (.x a1), .int .i64 (.x a2), .int .i64 (.x a3), .int .i64 (.x a4), .sla 0 2 0 a5], 0, true, none⟩)], 4, []⟩
  D0 := rdqD0 a0 a1 a2 a3 a4 a5 a6 a7 a8 a9 a10 a11 a12 a13 a14
  D := rdqD a0 a1 a2 a3 a4 a5 a6 a7 a8 a9 a10 a11 a12 a13 a14
  rc := (fun v => .int .i64 (.x v))
  rh := (fun v => [])
  rn := (fun v => 3)
  rx := (fun v => [])
  rgo := (fun _ => none)
theorem rdqstart (a0 : Bool) (a1 a2 a3 a4 : Int) (a5 : Nat) (a6 a7 : Nat → Int) (a8 : Nat) (a9 a10 a11 a12 : Nat → Int) (a13 : Nat) (a14 : Nat → Int) : AF.edgeOk (rdqA a0 a1 a2 a3 a4 a5 a6 a7 a8 a9 a10 a11 a12 a13 a14) (ctxOf Try.prog memo0) (rdqD0 a0 a1 a2 a3 a4 a5 a6 a7 a8 a9 a10 a11 a12 a13 a14) (AF.run0 (rdqA a0 a1 a2 a3 a4 a5 a6 a7 a8 a9 a10 a11 a12 a13 a14) (ctxOf Try.prog (memoS 24 rdtP rdtF rdtW rdtH 2 memo0))) := by unfold AF.edgeOk; kernel_rfl
theorem rdqnode0 (a0 : Bool) (a1 a2 a3 a4 : Int) (a5 : Nat) (a6 a7 : Nat → Int) (a8 : Nat) (a9 a10 a11 a12 : Nat → Int) (a13 : Nat) (a14 : Nat → Int) (p0 : Int) : AF.edgeOk (rdqA a0 a1 a2 a3 a4 a5 a6 a7 a8 a9 a10 a11 a12 a13 a14) (ctxOf Try.prog memo0) (rdqD a0 a1 a2 a3 a4 a5 a6 a7 a8 a9 a10 a11 a12 a13 a14 (.n0 p0)) (AF.runN (rdqA a0 a1 a2 a3 a4 a5 a6 a7 a8 a9 a10 a11 a12 a13 a14) (ctxOf Try.prog (memoS 24 rdtP rdtF rdtW rdtH 2 memo0)) (.n0 p0)) := by unfold AF.edgeOk; kernel_rfl
theorem rdqok (a0 : Bool) (a1 a2 a3 a4 : Int) (a5 : Nat) (a6 a7 : Nat → Int) (a8 : Nat) (a9 a10 a11 a12 : Nat → Int) (a13 : Nat) (a14 : Nat → Int) : (rdqA a0 a1 a2 a3 a4 a5 a6 a7 a8 a9 a10 a11 a12 a13 a14).Ok Try.prog (ctxOf Try.prog (memoS 24 rdtP rdtF rdtW rdtH 2 memo0)) where
  regs := by kernel_rfl
  h0 := by kernel_rfl
  start := rdqstart a0 a1 a2 a3 a4 a5 a6 a7 a8 a9 a10 a11 a12 a13 a14
  node := fun a _ => match a with
   | .n0 p0 => rdqnode0 a0 a1 a2 a3 a4 a5 a6 a7 a8 a9 a10 a11 a12 a13 a14 p0
  pd := fun a => match a with
   | .n0 p0 => ⟨(fa_cons rfl (fa_cons rfl (fa_cons rfl (fa_cons rfl fa_nil)))), (fa_cons ⟨.inl (Nat.le_of_ble_eq_true rfl), rfl, rfl⟩ fa_nil), fa_nil, rfl⟩
  le := fun a => match a with
   | .n0 p0 => Nat.le_of_ble_eq_true rfl
  rd := fun v => ⟨⟨fa_nil, fa_nil, fa_nil, rfl⟩, rfl⟩
  wb := rfl
theorem rdqhR {ρ : Env} (a0 : Bool) (a1 a2 a3 a4 : Int) (a5 : Nat) (a6 a7 : Nat → Int) (a8 : Nat) (a9 a10 a11 a12 : Nat → Int) (a13 : Nat) (a14 : Nat → Int) (hM : MemoOk Try.prog (ctxOf Try.prog (memoS 24 rdtP rdtF rdtW rdtH 2 memo0)) ρ) : ∀ X a q n D, FxOk ρ X → X.base = (rdqA a0 a1 a2 a3 a4 a5 a6 a7 a8 a9 a10 a11 a12 a13 a14).base → X.nt = (rdqA a0 a1 a2 a3 a4 a5 a6 a7 a8 a9 a10 a11 a12 a13 a14).nt → X.W = (rdqA a0 a1 a2 a3 a4 a5 a6 a7 a8 a9 a10 a11 a12 a13 a14).W → (rdqA a0 a1 a2 a3 a4 a5 a6 a7 a8 a9 a10 a11 a12 a13 a14).rgo a = some q → q n = some D → (rdqA a0 a1 a2 a3 a4 a5 a6 a7 a8 a9 a10 a11 a12 a13 a14).RangeOk Try.prog ρ X a D := AF.noRange rfl
theorem rdqctr {ρ : Env} (a0 : Bool) (a1 a2 a3 a4 : Int) (a5 : Nat) (a6 a7 : Nat → Int) (a8 : Nat) (a9 a10 a11 a12 : Nat → Int) (a13 : Nat) (a14 : Nat → Int) {n : Nat} {v : rdqR} (hM : MemoOk Try.prog (ctxOf Try.prog (memoS 24 rdtP rdtF rdtW rdtH 2 memo0)) ρ) (hv : (rdqA a0 a1 a2 a3 a4 a5 a6 a7 a8 a9 a10 a11 a12 a13 a14).run n = some v) :
    Ctr Try.prog ρ 39 (rdqA a0 a1 a2 a3 a4 a5 a6 a7 a8 a9 a10 a11 a12 a13 a14).args (rdqA a0 a1 a2 a3 a4 a5 a6 a7 a8 a9 a10 a11 a12 a13 a14).H0 (rdqA a0 a1 a2 a3 a4 a5 a6 a7 a8 a9 a10 a11 a12 a13 a14).base (rdqA a0 a1 a2 a3 a4 a5 a6 a7 a8 a9 a10 a11 a12 a13 a14).W ((rdqA a0 a1 a2 a3 a4 a5 a6 a7 a8 a9 a10 a11 a12 a13 a14).rc v) (putH (rdqA a0 a1 a2 a3 a4 a5 a6 a7 a8 a9 a10 a11 a12 a13 a14).H0 ((rdqA a0 a1 a2 a3 a4 a5 a6 a7 a8 a9 a10 a11 a12 a13 a14).rh v ++ (rdqA a0 a1 a2 a3 a4 a5 a6 a7 a8 a9 a10 a11 a12 a13 a14).rx v)) ((rdqA a0 a1 a2 a3 a4 a5 a6 a7 a8 a9 a10 a11 a12 a13 a14).rn v) :=
  AF.ctr try_ok hM (rdqok a0 a1 a2 a3 a4 a5 a6 a7 a8 a9 a10 a11 a12 a13 a14) (fn := Try.f39) Try.func39 rfl rfl (Nat.le_of_ble_eq_true rfl) rfl (rdqhR a0 a1 a2 a3 a4 a5 a6 a7 a8 a9 a10 a11 a12 a13 a14 hM) hv
theorem rdqmem {ρ : Env} : MemoOk Try.prog (ctxOf Try.prog (memoS 24 rdtP rdtF rdtW rdtH 2 memo0)) ρ := (memoS_ok (rdtknown rdtmem) memo0_ok)
abbrev rdqP : List AQ := [.agg [.bool, .int .i64, .int .i64, .int .i64, .int .i64, .rows [some .i64, some .i64]], .rows [some .i64, some .i64, some .i64, some .i64], .rows [some .i64]]
noncomputable def rdqF (v : AW) : AF rdqN rdqR := rdqA (v.b.getD 0 false) (v.i.getD 0 0) (v.i.getD 1 0) (v.i.getD 2 0) (v.i.getD 3 0) (v.t.getD 0 .none).n ((v.t.getD 0 .none).c 0) ((v.t.getD 0 .none).c 1) (v.t.getD 1 .none).n ((v.t.getD 1 .none).c 0) ((v.t.getD 1 .none).c 1) ((v.t.getD 1 .none).c 2) ((v.t.getD 1 .none).c 3) (v.t.getD 2 .none).n ((v.t.getD 2 .none).c 0)
noncomputable def rdqW : rdqR → CV := fun v => .int .i64 (.x v)
noncomputable def rdqH : rdqR → List (Nat × Blk) := fun v => []
instance : Inhabited rdqR := ⟨0⟩
theorem rdqknown {ρ : Env} (hM : MemoOk Try.prog (ctxOf Try.prog (memoS 24 rdtP rdtF rdtW rdtH 2 memo0)) ρ) : KnownS Try.prog ρ 39 rdqP rdqF rdqW rdqH 3 where
  fn := ⟨Try.f39, Try.func39, rfl⟩
  le := Nat.le_of_ble_eq_true rfl
  full := fun r => rfl
  rg := fun r => rfl
  hg := fun r => fa_nil
  ctr := fun v n r h => rdqctr (v.b.getD 0 false) (v.i.getD 0 0) (v.i.getD 1 0) (v.i.getD 2 0) (v.i.getD 3 0) (v.t.getD 0 .none).n ((v.t.getD 0 .none).c 0) ((v.t.getD 0 .none).c 1) (v.t.getD 1 .none).n ((v.t.getD 1 .none).c 0) ((v.t.getD 1 .none).c 1) ((v.t.getD 1 .none).c 2) ((v.t.getD 1 .none).c 3) (v.t.getD 2 .none).n ((v.t.getD 2 .none).c 0) hM h
end Go.Proofs.Ythagjhadjpangaa.Cx

/- Package die: lists of numbers and settings: what is valid; Proves. -/
namespace Go.Proofs.Ythagjhadjpangaa.Cx
set_option linter.unusedVariables false
set_option linter.unusedSimpArgs false
set_option maxRecDepth 100000
set_option maxHeartbeats 4000000
open Go Go.RowKit
section
variable {a0 a1 : Int} {a2 : Nat} {a3 : Nat → Int}
theorem xal_val (hn : a2 ≤ 10000) : AF.fin (xalA a0 a1 a2 a3) = true ∧ (AF.val (xalA a0 a1 a2 a3) = true ↔ ∀ i : Nat, (i : Int) < a2 → a0 ≤ a3 i ∧ a3 i ≤ a1) := by
  have h : AF.fin (xixA a2 a3 a0 a1) = true ∧ ((AF.val (xixA a2 a3 a0 a1) = -1 ∧ ∀ i : Nat, (i : Int) < a2 → a0 ≤ a3 i ∧ a3 i ≤ a1) ∨ (0 ≤ AF.val (xixA a2 a3 a0 a1) ∧ ¬ ∀ i : Nat, (i : Int) < a2 → a0 ≤ a3 i ∧ a3 i ≤ a1)) := by
    refine find_val (P := fun i => a0 ≤ a3 i ∧ a3 i ≤ a1) xixN.n0 (fun b => match b with | .n0 p => p) (fun _ => rfl) a2 (fun _ => rfl) rfl fun p h0 h1 => ?_
    show DD.sat _ _ (xixD a2 a3 a0 a1 (.n0 p))
    unfold xixD
    have e1 : Ar.run .add .i64 p 1 = p + 1 := arAdd (by omega)
    have e4 : ((p.toNat : Nat) : Int) = p := Int.toNat_of_nonneg h0
    simp only [DD.sat, Nat.zero_add, e1, cmLss, cmLssF, cmGtr, cmGtrF, decide_eq_true_eq, true_and]
    generalize a3 p.toNat = L
    repeat' (first | intro _ | apply And.intro)
    all_goals omega
  have hc : AF.fin (xcfA a2 a3 a0 a1) = true ∧ (AF.val (xcfA a2 a3 a0 a1) = true ↔ ¬ ∀ i : Nat, (i : Int) < a2 → a0 ≤ a3 i ∧ a3 i ≤ a1) := by
    refine flat_val (E := fun v => v = true ↔ ¬ ∀ i : Nat, (i : Int) < a2 → a0 ≤ a3 i ∧ a3 i ≤ a1) (fun _ => rfl) ?_
    show DD.sat _ _ (xcfD0 a2 a3 a0 a1)
    unfold xcfD0
    simp only [DD.sat, Nat.zero_add, cmGeq, cmGeqF, decide_eq_true_eq]
    refine ⟨Nat.le_refl _, shape_ok fun i _ => rfl, h.1, fun hv => ?_, fun hv => ?_⟩
    · have hv : 0 ≤ AF.val (xixA a2 a3 a0 a1) := hv
      rcases h.2 with h | h
      · rw [h.1] at hv; exact absurd hv (by decide)
      · exact ⟨fun _ => h.2, fun _ => trivial⟩
    · have hv : AF.val (xixA a2 a3 a0 a1) < 0 := hv
      rcases h.2 with h | h
      · exact ⟨fun k => (by cases k), fun k => absurd h.2 k⟩
      · exact absurd hv (Int.not_lt.2 h.1)
  refine flat_val (E := fun v => v = true ↔ ∀ i : Nat, (i : Int) < a2 → a0 ≤ a3 i ∧ a3 i ≤ a1) (fun _ => rfl) ?_
  show DD.sat _ _ (xalD0 a0 a1 a2 a3)
  unfold xalD0
  simp only [DD.sat, Nat.zero_add, decide_eq_true_eq]
  refine ⟨Nat.le_refl _, shape_ok fun i _ => rfl, hc.1, ?_⟩
  have h2 : AF.val (xcfA a2 (fun i => a3 i) a0 a1) = true ↔ ¬ ∀ i : Nat, (i : Int) < a2 → a0 ≤ a3 i ∧ a3 i ≤ a1 := hc.2
  rw [Bool.not_eq_true', ← Bool.not_eq_true, h2, Classical.not_not]
end
/-- Numbers of pieces, in strictly ascending order. -/
def OrdS (n : Nat) (F : Nat → Int) (T : Int) : Prop := (∀ i, i < n → 0 ≤ F i ∧ F i < T) ∧ ∀ i, i + 1 < n → F i < F (i + 1)
theorem OrdS.asc {n : Nat} {F : Nat → Int} {T : Int} (h : OrdS n F T) {i : Nat} : ∀ j, i < j → j < n → F i < F j
  | 0, h1, _ => by omega
  | j + 1, h1, h2 => by
    have a := h.2 j h2
    by_cases he : i = j
    · rw [he]; exact a
    · have := h.asc (i := i) j (by omega) (by omega)
      omega
theorem OrdS.cast {n : Nat} {F F' : Nat → Int} {T : Int} (hF : ∀ i, i < n → F' i = F i) : OrdS n F' T ↔ OrdS n F T := by
  unfold OrdS
  constructor <;> rintro ⟨h1, h2⟩ <;> refine ⟨fun i hi => ?_, fun i hi => ?_⟩
  · rw [← hF i hi]; exact h1 i hi
  · rw [← hF i (by omega), ← hF (i + 1) hi]; exact h2 i hi
  · rw [hF i hi]; exact h1 i hi
  · rw [hF i (by omega), hF (i + 1) hi]; exact h2 i hi
section
variable {a0 : Bool} {a1 a2 a3 a4 : Int} {a5 : Nat} {a6 a7 : Nat → Int} {a8 : Nat} {a9 a10 a11 a12 : Nat → Int} {a13 : Int} {a14 : Nat} {a15 a16 : Nat → Int}
theorem dio_val (hT : 0 ≤ a13 ∧ a13 ≤ 1000000000) (hn : a14 ≤ 10000) : AF.fin (dioA a0 a1 a2 a3 a4 a5 a6 a7 a8 a9 a10 a11 a12 a13 a14 a15) = true ∧ (AF.val (dioA a0 a1 a2 a3 a4 a5 a6 a7 a8 a9 a10 a11 a12 a13 a14 a15) = true ↔ OrdS a14 a15 a13) := by
  have hx := xal_val (a0 := 0) (a1 := a13 - 1) (a2 := a14) (a3 := a15) hn
  refine AF.val_sat (E := fun v => v = true ↔ OrdS a14 a15 a13) (Inv := fun b => match b with | .n0 p0 p1 => 0 ≤ p1 ∧ p1 ≤ a14 ∧ (p1 = 0 → p0 = -1) ∧ (0 < p1 → p0 = a15 (p1 - 1).toNat) ∧ (∀ i : Nat, (i : Int) < p1 → -1 < a15 i) ∧ ∀ i : Nat, (i : Int) + 1 < p1 → a15 i < a15 (i + 1))
    (fun b => match b with | .n0 p0 p1 => (a14 - p1).toNat) (fun _ => rfl) (fun a hI => ?_) ?_
  · cases a with
    | n0 p0 p1 =>
      obtain ⟨g0, g1, g2, g3, g4, g5⟩ := hI
      show DD.sat _ _ (dioD a0 a1 a2 a3 a4 a5 a6 a7 a8 a9 a10 a11 a12 a13 a14 a15 (.n0 p0 p1))
      unfold dioD
      have e1 : p1 < a14 → Ar.run .add .i64 p1 1 = p1 + 1 := fun h => arAdd (by omega)
      have e2 : Ar.run .sub .i64 a13 1 = a13 - 1 := arSub (by omega)
      have hxE : AF.val (xalA 0 (a13 - 1) a14 (fun i => a15 i)) = true ↔ ∀ i : Nat, (i : Int) < a14 → 0 ≤ a15 i ∧ a15 i ≤ a13 - 1 := hx.2
      simp only [DD.sat, Nat.zero_add, cmLss, cmLssF, cmLeq, cmLeqF, cmGtr, cmGtrF, cmGeq, cmGeqF, cmEql, cmEqlF, cmNeq, cmNeqF, decide_eq_true_eq, Bool.not_eq_true', Bool.not_eq_false', e2]
      refine ⟨fun hp => ⟨g0, hp, by omega, fun hl => ⟨fun k => (by cases k), fun k => ?_⟩, fun hl => ?_⟩, fun hp => ⟨Nat.le_refl _, shape_ok fun i _ => rfl, hx.1, ?_⟩⟩
      · exfalso
        by_cases hz : p1 = 0
        · have := (k.1 p1.toNat (by omega)).1
          rw [g2 hz] at hl
          omega
        · have := k.2 (p1 - 1).toNat (by omega)
          rw [g3 (by omega)] at hl
          rw [show (p1 - 1).toNat + 1 = p1.toNat by omega] at this
          omega
      · rw [e1 hp]
        refine ⟨⟨by omega, by omega, fun hx => by omega, fun _ => by rw [show (p1 + 1 - 1).toNat = p1.toNat by omega], fun i hi => ?_, fun i hi => ?_⟩, by omega⟩
        · by_cases he : (i : Int) < p1
          · exact g4 i he
          · obtain rfl : i = p1.toNat := by omega
            by_cases hz : p1 = 0
            · rw [g2 hz] at hl; exact hl
            · have := g4 (p1 - 1).toNat (by omega)
              rw [g3 (by omega)] at hl
              omega
        · by_cases he : (i : Int) + 1 < p1
          · exact g5 i he
          · have hi' : i + 1 = p1.toNat := by omega
            rw [hi']
            rw [g3 (by omega)] at hl
            rw [show i = (p1 - 1).toNat by omega]
            exact hl
      · rw [hxE]
        obtain rfl : p1 = a14 := by omega
        exact ⟨fun k => ⟨fun i hi => by have := k i (by omega); omega, fun i hi => g5 i (by omega)⟩, fun k i hi => by have := k.1 i (by omega); omega⟩
  · exact ⟨Int.le_refl _, by omega, fun _ => rfl, fun hx => by omega, fun i hi => by omega, fun i hi => by omega⟩
/-- Valid settings. -/
def SetS (n : Nat) (F G : Nat → Int) (T : Int) : Prop := OrdS n F T ∧ ∀ i : Nat, (i : Int) < n → -10000000000 ≤ G i ∧ G i ≤ 20000000000
theorem dvp_val (hT : 0 ≤ a13 ∧ a13 ≤ 1000000000) (hn : a14 ≤ 1000) : AF.fin (dvpA a0 a1 a2 a3 a4 a5 a6 a7 a8 a9 a10 a11 a12 a13 a14 a15 a16) = true ∧ (AF.val (dvpA a0 a1 a2 a3 a4 a5 a6 a7 a8 a9 a10 a11 a12 a13 a14 a15 a16) = true ↔ SetS a14 a15 a16 a13) := by
  refine AF.val_sat (E := fun v => v = true ↔ SetS a14 a15 a16 a13) (Inv := fun b => match b with | .n0 => True | .n1 p0 p1 p2 p3 p4 => p1 = p0 ∧ p2 = p0 ∧ p0 ≤ a14 ∧ (∀ i, i < p0 → p3 i = a15 i) ∧ ∀ i, i < p0 → p4 i = a16 i)
    (fun b => match b with | .n0 => a14 + 1 | .n1 p0 p1 p2 p3 p4 => a14 - p0) (fun _ => rfl) (fun a hI => ?_) ?_
  · cases a with
    | n0 =>
      have h1 := dio_val (a0 := a0) (a1 := a1) (a2 := a2) (a3 := a3) (a4 := a4) (a5 := a5) (a6 := a6) (a7 := a7) (a8 := a8) (a9 := a9) (a10 := a10) (a11 := a11) (a12 := a12) (a13 := a13) (a14 := 0) (a15 := fun _ => 0) hT (by omega)
      have h2 := xal_val (a0 := -10000000000) (a1 := 20000000000) (a2 := 0) (a3 := fun _ => 0) (by omega)
      have h1E : AF.val (dioA a0 a1 a2 a3 a4 a5 (fun i => a6 i) (fun i => a7 i) a8 (fun i => a9 i) (fun i => a10 i) (fun i => a11 i) (fun i => a12 i) a13 0 (fun i => 0)) = true := h1.2.2 ⟨fun i hi => by omega, fun i hi => by omega⟩
      have h2E : AF.val (xalA (-10000000000) 20000000000 0 (fun i => 0)) = true := h2.2.2 fun i hi => by omega
      show DD.sat _ _ (dvpD a0 a1 a2 a3 a4 a5 a6 a7 a8 a9 a10 a11 a12 a13 a14 a15 a16 .n0)
      unfold dvpD
      simp only [DD.sat, Nat.zero_add, cmLss, cmLssF, cmLeq, cmLeqF, cmGtr, cmGtrF, cmGeq, cmGeqF, cmEql, cmEqlF, cmNeq, cmNeqF, decide_eq_true_eq, Bool.not_eq_true', Bool.not_eq_false', h1E, h2E]
      refine ⟨fun hp => ⟨trivial, hp, by omega, ⟨trivial, rfl, by omega, fun i hi => ?_, fun i hi => ?_⟩, by omega⟩, fun hp => ⟨Nat.le_refl _, shape_ok fun i _ => rfl, Nat.le_refl _, shape_ok fun i _ => rfl, h1.1, fun _ => ⟨h2.1, ?_⟩, fun hx => by cases hx⟩⟩
      · obtain rfl : i = 0 := by omega
        rfl
      · obtain rfl : i = 0 := by omega
        rfl
      · exact ⟨fun _ => ⟨⟨fun i hi => by omega, fun i hi => by omega⟩, fun i hi => by omega⟩, fun _ => trivial⟩
    | n1 p0 p1 p2 p3 p4 =>
      obtain ⟨rfl, rfl, g1, g2, g3⟩ := hI
      show DD.sat _ _ (dvpD a0 a1 a2 a3 a4 a5 a6 a7 a8 a9 a10 a11 a12 a13 a14 a15 a16 (.n1 p1 _ _ p3 p4))
      unfold dvpD
      have h1 := dio_val (a0 := a0) (a1 := a1) (a2 := a2) (a3 := a3) (a4 := a4) (a5 := a5) (a6 := a6) (a7 := a7) (a8 := a8) (a9 := a9) (a10 := a10) (a11 := a11) (a12 := a12) (a13 := a13) (a14 := p1) (a15 := p3) hT (by omega)
      have h2 := xal_val (a0 := -10000000000) (a1 := 20000000000) (a2 := p1) (a3 := p4) (by omega)
      by_cases hq : p1 < a14
      · have e1 : Ar.run .add .i64 (p1 : Int) 1 = ((p1 + 1 : Nat) : Int) := by rw [arAdd (by omega)]; omega
        simp only [DD.sat, Nat.zero_add, cmLss, cmLssF, cmLeq, cmLeqF, cmGtr, cmGtrF, cmGeq, cmGeqF, cmEql, cmEqlF, cmNeq, cmNeqF, decide_eq_true_eq, Bool.not_eq_true', Bool.not_eq_false', e1]
        refine ⟨fun _ => ⟨by omega, by omega, by omega, Nat.le_refl _, by omega, Nat.le_refl _, by omega, ⟨trivial, trivial, by omega, fun i hi => ?_, fun i hi => ?_⟩, by omega⟩, fun hx => by omega⟩
        · try dsimp only
          by_cases he : i < p1
          · rw [bif_lt he]; exact g2 i he
          · obtain rfl : i = p1 := by omega
            rw [bif_ge]; rfl
        · try dsimp only
          by_cases he : i < p1
          · rw [bif_lt he]; exact g3 i he
          · obtain rfl : i = p1 := by omega
            rw [bif_ge]; rfl
      · obtain rfl : p1 = a14 := by omega
        have o := (OrdS.cast (T := a13) g2)
        have c1 : AF.val (dioA a0 a1 a2 a3 a4 a5 (fun i => a6 i) (fun i => a7 i) a8 (fun i => a9 i) (fun i => a10 i) (fun i => a11 i) (fun i => a12 i) a13 p1 (fun i => p3 i)) = true ↔ OrdS p1 a15 a13 := h1.2.trans o
        have c2 : AF.val (xalA (-10000000000) 20000000000 p1 (fun i => p4 i)) = true ↔ ∀ i : Nat, (i : Int) < p1 → -10000000000 ≤ a16 i ∧ a16 i ≤ 20000000000 := h2.2.trans ⟨fun k i hi => by rw [← g3 i (by omega)]; exact k i hi, fun k i hi => by rw [g3 i (by omega)]; exact k i hi⟩
        simp only [DD.sat, Nat.zero_add, cmLss, cmLssF, cmLeq, cmLeqF, cmGtr, cmGtrF, cmGeq, cmGeqF, cmEql, cmEqlF, cmNeq, cmNeqF, decide_eq_true_eq, Bool.not_eq_true', Bool.not_eq_false']
        refine ⟨fun hx => by omega, fun _ => ⟨Nat.le_refl _, shape_ok fun i _ => rfl, Nat.le_refl _, shape_ok fun i _ => rfl, Nat.le_refl _, shape_ok fun i _ => rfl, Nat.le_refl _, h1.1, fun hv => ⟨Nat.le_refl _, shape_ok fun i _ => rfl, Nat.le_refl _, h2.1, ?_⟩, fun hv => ⟨fun k => (by cases k), fun k => ?_⟩⟩⟩
        · rw [c2]
          exact ⟨fun k => ⟨c1.1 hv, k⟩, fun k => k.2⟩
        · rw [c1.2 k.1] at hv
          cases hv
  · show True
    trivial
end
section
variable {a0 : Nat} {a1 a2 a3 a4 : Nat → Int} {a5 : Nat} {a6 a7 : Nat → Int}
theorem rdc_val (hm : a0 ≤ 40) (h : ∀ i : Nat, i < a0 → 1 ≤ a1 i ∧ a1 i ≤ 10000) (hn : a5 ≤ 10000) : AF.fin (rdcA a0 a1 a2 a3 a4 a5 a6) = true ∧ (AF.val (rdcA a0 a1 a2 a3 a4 a5 a6) = true ↔ OrdS a5 a6 (PS a1 a0)) := by
  obtain ⟨af, av⟩ := rda_val (a2 := a2) (a3 := a3) (a4 := a4) hm h
  have avE : AF.val (rdaA a0 (fun i => a1 i) (fun i => a2 i) (fun i => a3 i) (fun i => a4 i)) = _ := av
  have r := PS_rng h a0 (Nat.le_refl _)
  have es : Ar.run .sub .i64 (PS a1 a0) 1 = PS a1 a0 - 1 := arSub (by omega)
  refine AF.val_sat (E := fun v => v = true ↔ OrdS a5 a6 (PS a1 a0)) (Inv := fun b => match b with | .n0 p => 0 ≤ p ∧ p ≤ a5 ∧ OrdS p.toNat a6 (PS a1 a0))
    (fun b => match b with | .n0 p => (a5 - p).toNat) (fun _ => rfl) (fun a hI => ?_) ?_
  · cases a with
    | n0 p =>
      obtain ⟨g0, g1, g2⟩ := hI
      show DD.sat _ _ (rdcD a0 a1 a2 a3 a4 a5 a6 (.n0 p))
      unfold rdcD
      by_cases hq : p < a5
      · have e1 : Ar.run .add .i64 p 1 = p + 1 := arAdd (by omega)
        have e2 : Ar.run .sub .i64 p 1 = p - 1 := arSub (by omega)
        have bad : ¬ (0 ≤ a6 p.toNat ∧ a6 p.toNat ≤ PS a1 a0 - 1) → (false = true ↔ OrdS a5 a6 (PS a1 a0)) := fun hb => ⟨fun k => (by cases k), fun k => absurd (by have := k.1 p.toNat (by omega); omega) hb⟩
        have nx : (0 ≤ a6 p.toNat ∧ a6 p.toNat ≤ PS a1 a0 - 1) → (0 < p → a6 (p - 1).toNat < a6 p.toNat) → OrdS (p + 1).toNat a6 (PS a1 a0) := fun hb hc => ⟨fun i hi => by
          by_cases he : i < p.toNat
          · exact g2.1 i he
          · obtain rfl : i = p.toNat := by omega
            omega, fun i hi => by
          by_cases he : i + 1 < p.toNat
          · exact g2.2 i he
          · have := hc (by omega)
            rw [show i + 1 = p.toNat by omega, show i = (p - 1).toNat by omega]
            exact this⟩
        simp only [DD.sat, Nat.zero_add, cmLss, cmLssF, cmLeq, cmLeqF, cmGtr, cmGtrF, cmGeq, cmGeqF, cmEql, cmEqlF, cmNeq, cmNeqF, decide_eq_true_eq, Bool.not_eq_true', Bool.not_eq_false', avE, es, e1, e2]
        refine ⟨fun _ => ⟨g0, hq, by omega, Nat.le_refl _, shape_ok fun i _ => rfl, af, fun h1 => ⟨fun h2 => ⟨fun h3 => ⟨g0, hq, by omega, by omega, by omega, by omega, fun h4 => ⟨fun k => (by cases k), fun k => ?_⟩, fun h4 => ⟨⟨by omega, by omega, nx ⟨h1, h2⟩ fun _ => h4⟩, by omega⟩⟩, fun h3 => ⟨⟨by omega, by omega, nx ⟨h1, h2⟩ fun hx => by omega⟩, by omega⟩⟩, fun h2 => bad (by omega)⟩, fun h1 => bad (by omega)⟩, fun hx => by omega⟩
        have := k.2 (p - 1).toNat (by omega)
        rw [show (p - 1).toNat + 1 = p.toNat by omega] at this
        omega
      · simp only [DD.sat, Nat.zero_add, cmLss, cmLssF, cmLeq, cmLeqF, cmGtr, cmGtrF, cmGeq, cmGeqF, cmEql, cmEqlF, cmNeq, cmNeqF, decide_eq_true_eq, Bool.not_eq_true', Bool.not_eq_false']
        refine ⟨fun hx => by omega, fun _ => ⟨fun _ => ?_, fun _ => trivial⟩⟩
        rw [show p.toNat = a5 by omega] at g2
        exact g2
  · exact ⟨Int.le_refl _, by omega, fun i hi => by simp at hi, fun i hi => by simp at hi⟩
/-- The error of settings. -/
def RseS (n : Nat) (S : Prop) (v : Int) : Prop := n > 1000 ∧ v = 5 ∨ n ≤ 1000 ∧ (S ∧ v = 0 ∨ ¬ S ∧ v = 2)
theorem rds_val (hm : a0 ≤ 40) (h : ∀ i : Nat, i < a0 → 1 ≤ a1 i ∧ a1 i ≤ 10000) (hn : a5 ≤ 10000) : AF.fin (rdsA a0 a1 a2 a3 a4 a5 a6 a7) = true ∧ RseS a5 (SetS a5 a6 a7 (PS a1 a0)) (AF.val (rdsA a0 a1 a2 a3 a4 a5 a6 a7)) := by
  obtain ⟨af, av⟩ := rda_val (a2 := a2) (a3 := a3) (a4 := a4) hm h
  have avE : AF.val (rdaA a0 (fun i => a1 i) (fun i => a2 i) (fun i => a3 i) (fun i => a4 i)) = _ := av
  have r := PS_rng h a0 (Nat.le_refl _)
  have es : Ar.run .sub .i64 (PS a1 a0) 1 = PS a1 a0 - 1 := arSub (by omega)
  refine AF.val_sat (E := RseS a5 (SetS a5 a6 a7 (PS a1 a0))) (Inv := fun b => match b with | .n0 p => a5 ≤ 1000 ∧ 0 ≤ p ∧ p ≤ a5 ∧ SetS p.toNat a6 a7 (PS a1 a0))
    (fun b => match b with | .n0 p => (a5 - p).toNat) (fun _ => rfl) (fun a hI => ?_) ?_
  · cases a with
    | n0 p =>
      obtain ⟨gn, g0, g1, g2, g3⟩ := hI
      show DD.sat _ _ (rdsD a0 a1 a2 a3 a4 a5 a6 a7 (.n0 p))
      unfold rdsD
      by_cases hq : p < a5
      · have e1 : Ar.run .add .i64 p 1 = p + 1 := arAdd (by omega)
        have e2 : Ar.run .sub .i64 p 1 = p - 1 := arSub (by omega)
        have no : ¬ SetS a5 a6 a7 (PS a1 a0) → RseS a5 (SetS a5 a6 a7 (PS a1 a0)) 2 := fun hb => .inr ⟨gn, .inr ⟨hb, rfl⟩⟩
        have bad : ¬ (0 ≤ a6 p.toNat ∧ a6 p.toNat ≤ PS a1 a0 - 1) → RseS a5 (SetS a5 a6 a7 (PS a1 a0)) 2 := fun hb => no fun k => hb (by have := k.1.1 p.toNat (by omega); omega)
        have bad2 : ¬ (-10000000000 ≤ a7 p.toNat ∧ a7 p.toNat ≤ 20000000000) → RseS a5 (SetS a5 a6 a7 (PS a1 a0)) 2 := fun hb => no fun k => hb (k.2 p.toNat (by omega))
        have nx : (0 ≤ a6 p.toNat ∧ a6 p.toNat ≤ PS a1 a0 - 1) → (-10000000000 ≤ a7 p.toNat ∧ a7 p.toNat ≤ 20000000000) → (0 < p → a6 (p - 1).toNat < a6 p.toNat) → SetS (p + 1).toNat a6 a7 (PS a1 a0) := fun hb hd hc => ⟨⟨fun i hi => by
          by_cases he : i < p.toNat
          · exact g2.1 i he
          · obtain rfl : i = p.toNat := by omega
            omega, fun i hi => by
          by_cases he : i + 1 < p.toNat
          · exact g2.2 i he
          · have := hc (by omega)
            rw [show i + 1 = p.toNat by omega, show i = (p - 1).toNat by omega]
            exact this⟩, fun i hi => by
          by_cases he : i < p.toNat
          · exact g3 i (by omega)
          · obtain rfl : i = p.toNat := by omega
            exact hd⟩
        simp only [DD.sat, Nat.zero_add, cmLss, cmLssF, cmLeq, cmLeqF, cmGtr, cmGtrF, cmGeq, cmGeqF, cmEql, cmEqlF, cmNeq, cmNeqF, decide_eq_true_eq, Bool.not_eq_true', Bool.not_eq_false', avE, es, e1, e2]
        refine ⟨fun _ => ⟨g0, hq, by omega, Nat.le_refl _, shape_ok fun i _ => rfl, af, fun h1 => ⟨fun h2 => ⟨fun h3 => ⟨g0, hq, by omega, by omega, by omega, by omega, fun h4 => no fun k => ?_, fun h4 => ⟨g0, hq, by omega, fun h5 => ⟨fun h6 => ⟨⟨gn, by omega, by omega, nx ⟨h1, h2⟩ ⟨h5, h6⟩ fun _ => h4⟩, by omega⟩, fun h6 => bad2 (by omega)⟩, fun h5 => bad2 (by omega)⟩⟩, fun h3 => ⟨g0, hq, by omega, fun h5 => ⟨fun h6 => ⟨⟨gn, by omega, by omega, nx ⟨h1, h2⟩ ⟨h5, h6⟩ fun hx => by omega⟩, by omega⟩, fun h6 => bad2 (by omega)⟩, fun h5 => bad2 (by omega)⟩⟩, fun h2 => bad (by omega)⟩, fun h1 => bad (by omega)⟩, fun hx => by omega⟩
        have := k.1.2 (p - 1).toNat (by omega)
        rw [show (p - 1).toNat + 1 = p.toNat by omega] at this
        omega
      · simp only [DD.sat, Nat.zero_add, cmLss, cmLssF, cmLeq, cmLeqF, cmGtr, cmGtrF, cmGeq, cmGeqF, cmEql, cmEqlF, cmNeq, cmNeqF, decide_eq_true_eq, Bool.not_eq_true', Bool.not_eq_false']
        refine ⟨fun hx => by omega, fun _ => .inr ⟨gn, .inl ⟨?_, rfl⟩⟩⟩
        rw [show p.toNat = a5 by omega] at g2 g3
        exact ⟨g2, g3⟩
  · show DD.sat _ _ (rdsD0 a0 a1 a2 a3 a4 a5 a6 a7)
    unfold rdsD0
    simp only [DD.sat, Nat.zero_add, cmLss, cmLssF, cmLeq, cmLeqF, cmGtr, cmGtrF, cmGeq, cmGeqF, cmEql, cmEqlF, cmNeq, cmNeqF, decide_eq_true_eq, Bool.not_eq_true', Bool.not_eq_false']
    exact ⟨fun hx => .inl ⟨by omega, rfl⟩, fun hx => ⟨by omega, Int.le_refl _, by omega, ⟨fun i hi => by simp at hi, fun i hi => by simp at hi⟩, fun i hi => by omega⟩⟩
end
/-- The first number that can be done together with the next one, or -1. -/
def ProvS (lo hi : Int → Nat → Int) (n : Nat) (F : Nat → Int) (r : Int) : Prop :=
  (r = -1 ∧ ∀ i, i + 1 < n → ¬ CanP lo hi (F i) (F (i + 1) + 1)) ∨ ∃ k : Nat, r = k ∧ k + 1 < n ∧ CanP lo hi (F k) (F (k + 1) + 1) ∧ ∀ i, i < k → ¬ CanP lo hi (F i) (F (i + 1) + 1)
theorem ProvS.same {lo hi : Int → Nat → Int} {n : Nat} {F : Nat → Int} {r r' : Int} (h : ProvS lo hi n F r) (h' : ProvS lo hi n F r') : r = r' := by
  rcases h with ⟨rfl, h⟩ | ⟨k, rfl, h1, h2, h3⟩ <;> rcases h' with ⟨rfl, h'⟩ | ⟨k', rfl, h1', h2', h3'⟩
  · rfl
  · exact absurd h2' (h k' h1')
  · exact absurd h2 (h' k h1)
  · rcases Nat.lt_trichotomy k k' with q | q | q
    · exact absurd h2 (h3' k q)
    · rw [q]
    · exact absurd h2' (h3 k' q)
section
variable {a0 : Bool} {a1 a2 a3 a4 : Int} {a5 : Nat} {a6 a7 : Nat → Int} {a8 : Nat} {a9 a10 a11 a12 : Nat → Int} {a13 : Nat} {a14 : Nat → Int}
theorem rdq_val (h : JobOk a1 a2 a3 a4 a5 a6 a7 a8 a9 a10 a11 a12) (hn : a13 ≤ 10000) (ho : OrdS a13 a14 (PS a9 a8)) : AF.fin (rdqA a0 a1 a2 a3 a4 a5 a6 a7 a8 a9 a10 a11 a12 a13 a14) = true ∧ ProvS (loJ a0 a1 a3 a6 a7 a8 a9 a10 a11) (hiJ a0 a2 a4 a6 a7 a8 a9 a10 a12) a13 a14 (AF.val (rdqA a0 a1 a2 a3 a4 a5 a6 a7 a8 a9 a10 a11 a12 a13 a14)) := by
  have r := PS_rng h.pc a8 (Nat.le_refl _)
  have few := h.few
  refine AF.val_sat (E := ProvS (loJ a0 a1 a3 a6 a7 a8 a9 a10 a11) (hiJ a0 a2 a4 a6 a7 a8 a9 a10 a12) a13 a14) (Inv := fun b => match b with | .n0 p => 0 ≤ p ∧ p ≤ a13 ∧ ∀ i : Nat, (i : Int) < p → i + 1 < a13 ∧ ¬ CanP (loJ a0 a1 a3 a6 a7 a8 a9 a10 a11) (hiJ a0 a2 a4 a6 a7 a8 a9 a10 a12) (a14 i) (a14 (i + 1) + 1))
    (fun b => match b with | .n0 p => (a13 - p).toNat) (fun _ => rfl) (fun a hI => ?_) ?_
  · cases a with
    | n0 p =>
      obtain ⟨g0, g1, g2⟩ := hI
      show DD.sat _ _ (rdqD a0 a1 a2 a3 a4 a5 a6 a7 a8 a9 a10 a11 a12 a13 a14 (.n0 p))
      unfold rdqD
      have e1 : Ar.run .add .i64 p 1 = p + 1 := arAdd (by omega)
      by_cases hq : p + 1 < a13
      · have b1 := ho.1 p.toNat (by omega)
        have b2 := ho.1 (p.toNat + 1) (by omega)
        have b3 := ho.2 p.toNat (by omega)
        have e2 : (p + 1).toNat = p.toNat + 1 := by omega
        have e3 : Ar.run .add .i64 (a14 (p.toNat + 1)) 1 = a14 (p.toNat + 1) + 1 := arAdd (by omega)
        obtain ⟨tf, tv⟩ := rdt_val (a0 := a0) (a13 := a14 p.toNat) (a14 := a14 (p.toNat + 1) + 1) h (by omega) (by omega) (by omega)
        have tvE : AF.val (rdtA a0 a1 a2 a3 a4 a5 (fun i => a6 i) (fun i => a7 i) a8 (fun i => a9 i) (fun i => a10 i) (fun i => a11 i) (fun i => a12 i) (a14 p.toNat) (a14 (p.toNat + 1) + 1)) = _ := tv
        simp only [DD.sat, Nat.zero_add, cmLss, cmLssF, cmLeq, cmLeqF, cmGtr, cmGtrF, cmGeq, cmGeqF, cmEql, cmEqlF, cmNeq, cmNeqF, decide_eq_true_eq, Bool.not_eq_true', Bool.not_eq_false', e1, e2, e3, tvE]
        refine ⟨fun _ => ⟨g0, by omega, by omega, by omega, hq, by omega, Nat.le_refl _, shape_ok fun i _ => rfl, Nat.le_refl _, shape_ok fun i _ => rfl, tf, fun hc => .inr ⟨p.toNat, by omega, by omega, hc, fun i hi => (g2 i (by omega)).2⟩, fun hc => ⟨⟨by omega, by omega, fun i hi => ?_⟩, by omega⟩⟩, fun hx => by omega⟩
        by_cases he : (i : Int) < p
        · exact g2 i he
        · obtain rfl : i = p.toNat := by omega
          exact ⟨by omega, fun hx => absurd hx (Int.not_le.2 hc)⟩
      · simp only [DD.sat, Nat.zero_add, cmLss, cmLssF, cmLeq, cmLeqF, cmGtr, cmGtrF, cmGeq, cmGeqF, cmEql, cmEqlF, cmNeq, cmNeqF, decide_eq_true_eq, Bool.not_eq_true', Bool.not_eq_false', e1]
        exact ⟨fun hx => by omega, fun _ => .inl ⟨rfl, fun i hi => (g2 i (by omega)).2⟩⟩
  · exact ⟨Int.le_refl _, by omega, fun i hi => by omega⟩
/-- What Proves yields. -/
def ProE (a0 : Bool) (a1 a2 a3 a4 : Int) (a5 : Nat) (a6 a7 : Nat → Int) (a8 : Nat) (a9 a10 a11 a12 : Nat → Int) (a13 : Nat) (a14 : Nat → Int) (v : Int × Int) : Prop :=
  ∃ e, CkS a5 a8 (ToolOk a5 a6 a7 a1 a2 a3 a4) a9 a10 a11 a12 e ∧ (e ≠ 0 ∧ v = (0, e) ∨ e = 0 ∧ (a13 > 1000 ∧ v = (0, 5) ∨ a13 ≤ 1000 ∧ (¬ OrdS a13 a14 (PS a9 a8) ∧ v = (0, 2) ∨
    OrdS a13 a14 (PS a9 a8) ∧ ∃ r, ProvS (loJ a0 a1 a3 a6 a7 a8 a9 a10 a11) (hiJ a0 a2 a4 a6 a7 a8 a9 a10 a12) a13 a14 r ∧ v = (r, 0))))
theorem dpr_val (hn : a5 ≤ 10000) (hm : a8 ≤ 10000) (hk : a13 ≤ 10000) : AF.fin (dprA a0 a1 a2 a3 a4 a5 a6 a7 a8 a9 a10 a11 a12 a13 a14) = true ∧ ProE a0 a1 a2 a3 a4 a5 a6 a7 a8 a9 a10 a11 a12 a13 a14 (AF.val (dprA a0 a1 a2 a3 a4 a5 a6 a7 a8 a9 a10 a11 a12 a13 a14)) := by
  obtain ⟨hf, e, hC, hv⟩ := dsh_val (a0 := a0) (a1 := a1) (a2 := a2) (a3 := a3) (a4 := a4) (a5 := a5) (a6 := a6) (a7 := a7) (a8 := a8) (a9 := a9) (a10 := a10) (a11 := a11) (a12 := a12) hn hm
  refine AF.val_sat (E := ProE a0 a1 a2 a3 a4 a5 a6 a7 a8 a9 a10 a11 a12 a13 a14) (Inv := fun b => match b with | .n0 p p0 p1 p2 p3 p4 p5 p6 p7 => (p0 = a0 ∧ p1 = a1 ∧ p2 = a2 ∧ p3 = a3 ∧ p4 = a4 ∧ p5 = a5 ∧ p6 = a8 ∧ p7 = PS a9 a8) ∧ e = 0 ∧ a13 ≤ 1000 ∧ OrdS a13 a14 (PS a9 a8) ∧ 0 ≤ p ∧ p ≤ a13 ∧ ∀ i : Nat, (i : Int) < p → i + 1 < a13 ∧ ¬ CanP (loJ a0 a1 a3 a6 a7 a8 a9 a10 a11) (hiJ a0 a2 a4 a6 a7 a8 a9 a10 a12) (a14 i) (a14 (i + 1) + 1))
    (fun b => match b with | .n0 p p0 p1 p2 p3 p4 p5 p6 p7 => (a13 - p).toNat) (fun _ => rfl) (fun a hI => ?_) ?_
  · cases a with
    | n0 p p0 p1 p2 p3 p4 p5 p6 p7 =>
      obtain ⟨⟨rfl, rfl, rfl, rfl, rfl, rfl, rfl, rfl⟩, rfl, hk', ho, g0, g1, g2⟩ := hI
      have job := hC.job
      have r := PS_rng job.pc p6 (Nat.le_refl _)
      have few := job.few
      have ans : ∀ r, ProvS (loJ p0 p1 p3 a6 a7 p6 a9 a10 a11) (hiJ p0 p2 p4 a6 a7 p6 a9 a10 a12) a13 a14 r → ProE p0 p1 p2 p3 p4 p5 a6 a7 p6 a9 a10 a11 a12 a13 a14 (r, 0) := fun r hr => ⟨0, hC, .inr ⟨rfl, .inr ⟨hk', .inr ⟨ho, r, hr, rfl⟩⟩⟩⟩
      show DD.sat _ _ (dprD p0 p1 p2 p3 p4 p5 a6 a7 p6 a9 a10 a11 a12 a13 a14 (.n0 p p0 p1 p2 p3 p4 p5 p6 (PS a9 p6)))
      unfold dprD
      have e1 : Ar.run .add .i64 p 1 = p + 1 := arAdd (by omega)
      have e4 : Ar.run .sub .i64 (a13 : Int) 1 = (a13 : Int) - 1 := arSub (by omega)
      by_cases hq : p + 1 < a13
      · have b1 := ho.1 p.toNat (by omega)
        have b2 := ho.1 (p.toNat + 1) (by omega)
        have b3 := ho.2 p.toNat (by omega)
        have e2 : (p + 1).toNat = p.toNat + 1 := by omega
        have e3 : Ar.run .add .i64 (a14 (p.toNat + 1)) 1 = a14 (p.toNat + 1) + 1 := arAdd (by omega)
        obtain ⟨rf, x, y, z, rv, J, j1, j2, j3, rfl, rfl, rfl⟩ := drc_gen (a0 := p0) (a13 := PS a9 p6) (a14 := -10000000000) (a15 := 20000000000) (a16 := a14 p.toNat) (a17 := a14 (p.toNat + 1) + 1) job (by omega) (by omega) (by omega)
        have rvE : AF.val (drcA p0 p1 p2 p3 p4 p5 (fun i => a6 i) (fun i => a7 i) p6 (fun i => a9 i) (fun i => a10 i) (fun i => a11 i) (fun i => a12 i) (PS a9 p6) (-10000000000) 20000000000 (a14 p.toNat) (a14 (p.toNat + 1) + 1)) = _ := rv
        have el := fun n => job.lo (a0 := p0) (a13 := a14 p.toNat) (by omega) (by omega) n
        have eh := fun n => job.hi (a0 := p0) (a13 := a14 p.toNat) (by omega) (by omega) n
        have key : a14 p.toNat + J = a14 (p.toNat + 1) + 1 ↔ CanP (loJ p0 p1 p3 a6 a7 p6 a9 a10 a11) (hiJ p0 p2 p4 a6 a7 p6 a9 a10 a12) (a14 p.toNat) (a14 (p.toNat + 1) + 1) := by
          unfold CanP loJ hiJ
          constructor
          · intro hz
            have := j3 (by omega)
            obtain ⟨K, rfl⟩ : ∃ K, J = K + 1 := ⟨J - 1, by omega⟩
            rw [el, eh] at this
            rw [show (a14 (p.toNat + 1) + 1 - a14 p.toNat).toNat = K + 1 by omega]
            exact this
          · intro hc
            by_cases hz : (J : Int) < a14 (p.toNat + 1) + 1 - a14 p.toNat
            · exfalso
              have := j2 hz
              rw [el, eh] at this
              have m1 := LoM_mono (t := -1152921504606846976) (tl := tlP p0 p1 p3 a6 a7 a10 a9 a11 p6 (a14 p.toNat)) (i := J + 1) (a14 (p.toNat + 1) + 1 - a14 p.toNat).toNat (by omega)
              have m2 := HiM_mono (t := 1152921504606846976) (th := thP p0 p2 p4 a6 a7 a10 a9 a12 p6 (a14 p.toNat)) (i := J + 1) (a14 (p.toNat + 1) + 1 - a14 p.toNat).toNat (by omega)
              omega
            · omega
        simp only [DD.sat, Nat.zero_add, cmLss, cmLssF, cmLeq, cmLeqF, cmGtr, cmGtrF, cmGeq, cmGeqF, cmEql, cmEqlF, cmNeq, cmNeqF, decide_eq_true_eq, Bool.not_eq_true', Bool.not_eq_false', e1, e2, e3, e4, rvE]
        refine ⟨fun _ => ⟨by omega, hq, by omega, g0, by omega, by omega, Nat.le_refl _, shape_ok fun i _ => rfl, Nat.le_refl _, shape_ok fun i _ => rfl, rf, fun hc => ?_, fun hc => ⟨⟨(by repeat' (first | trivial | exact rfl | apply And.intro)), trivial, hk', ho, by omega, by omega, fun i hi => ?_⟩, by omega⟩⟩, fun hx => by omega⟩
        · exact ans p (.inr ⟨p.toNat, by omega, by omega, key.1 hc, fun i hi => (g2 i (by omega)).2⟩)
        · by_cases he : (i : Int) < p
          · exact g2 i he
          · obtain rfl : i = p.toNat := by omega
            exact ⟨by omega, fun hx => hc (key.2 hx)⟩
      · simp only [DD.sat, Nat.zero_add, cmLss, cmLssF, cmLeq, cmLeqF, cmGtr, cmGtrF, cmGeq, cmGeqF, cmEql, cmEqlF, cmNeq, cmNeqF, decide_eq_true_eq, Bool.not_eq_true', Bool.not_eq_false', e4]
        exact ⟨fun hx => by omega, fun _ => ans (-1) (.inl ⟨rfl, fun i hi => (g2 i (by omega)).2⟩)⟩
  · show DD.sat _ _ (dprD0 a0 a1 a2 a3 a4 a5 a6 a7 a8 a9 a10 a11 a12 a13 a14)
    unfold dprD0
    rcases hv with ⟨he, hv⟩ | ⟨rfl, hv⟩
    · have hv' : AF.val (dshA a0 a1 a2 a3 a4 a5 (fun i => a6 i) (fun i => a7 i) a8 (fun i => a9 i) (fun i => a10 i) (fun i => a11 i) (fun i => a12 i)) = .r0 e := hv
      simp only [DD.sat, Nat.zero_add, cmLss, cmLssF, cmLeq, cmLeqF, cmGtr, cmGtrF, cmGeq, cmGeqF, cmEql, cmEqlF, cmNeq, cmNeqF, decide_eq_true_eq, Bool.not_eq_true', Bool.not_eq_false', hv', dshw8]
      refine ⟨Nat.le_refl _, shape_ok fun i _ => rfl, Nat.le_refl _, shape_ok fun i _ => rfl, hf, fun _ => ⟨e, hC, .inl ⟨he, rfl⟩⟩, fun hx => absurd hx he⟩
    · have hv' : AF.val (dshA a0 a1 a2 a3 a4 a5 (fun i => a6 i) (fun i => a7 i) a8 (fun i => a9 i) (fun i => a10 i) (fun i => a11 i) (fun i => a12 i)) = .r1 a0 a1 a2 a3 a4 a5 a8 (PS a9 a8) := hv
      have job := hC.job
      have r := PS_rng job.pc a8 (Nat.le_refl _)
      have few := job.few
      simp only [DD.sat, Nat.zero_add, cmLss, cmLssF, cmLeq, cmLeqF, cmGtr, cmGtrF, cmGeq, cmGeqF, cmEql, cmEqlF, cmNeq, cmNeqF, decide_eq_true_eq, Bool.not_eq_true', Bool.not_eq_false', hv', dshw0, dshw1, dshw2, dshw3, dshw4, dshw5, dshw6, dshw7, dshw8]
      refine ⟨Nat.le_refl _, shape_ok fun i _ => rfl, Nat.le_refl _, shape_ok fun i _ => rfl, hf, fun hx => absurd rfl hx, fun _ => ⟨fun h => ⟨0, hC, .inr ⟨rfl, .inl ⟨by omega, rfl⟩⟩⟩, fun h1 => ?_⟩⟩
      obtain ⟨of, ov⟩ := dio_val (a0 := a0) (a1 := a1) (a2 := a2) (a3 := a3) (a4 := a4) (a5 := a5) (a6 := a6) (a7 := a7) (a8 := a8) (a9 := a9) (a10 := a10) (a11 := a11) (a12 := a12) (a13 := PS a9 a8) (a14 := a13) (a15 := a14) (by omega) (by omega)
      have ovE : AF.val (dioA a0 a1 a2 a3 a4 a5 (fun i => a6 i) (fun i => a7 i) a8 (fun i => a9 i) (fun i => a10 i) (fun i => a11 i) (fun i => a12 i) (PS a9 a8) a13 (fun i => a14 i)) = true ↔ OrdS a13 a14 (PS a9 a8) := ov
      refine ⟨Nat.le_refl _, shape_ok fun i _ => rfl, Nat.le_refl _, shape_ok fun i _ => rfl, Nat.le_refl _, shape_ok fun i _ => rfl, of, fun hb => ⟨0, hC, .inr ⟨rfl, .inr ⟨by omega, .inl ⟨fun k => ?_, rfl⟩⟩⟩⟩, fun hb => ⟨(by repeat' (first | trivial | exact rfl | apply And.intro)), trivial, by omega, ovE.1 hb, Int.le_refl _, by omega, fun i hi => by omega⟩⟩
      rw [ovE.2 k] at hb
      cases hb
end
end Go.Proofs.Ythagjhadjpangaa.Cx
