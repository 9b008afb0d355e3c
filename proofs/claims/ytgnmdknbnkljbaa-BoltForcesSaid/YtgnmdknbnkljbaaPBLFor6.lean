/- acme/bolt.Force as an automaton. Made by tools/cxauto.py. -/
import Derived.Test.YtgnmdknbnkljbaaPBLFor5

namespace Go.Proofs.Ytgnmdknbnkljbaa.Cx
set_option linter.unusedVariables false
set_option linter.unusedSimpArgs false
set_option maxRecDepth 100000
open Go Go.Proofs Go.RowKit

noncomputable abbrev aboCode : Code := funcCode Try.f13


abbrev aboN := Empty

abbrev aboR := Int × Int × Int

noncomputable def aboD0 (a0 : Int) (a1 : Int) (a2 : Int) (a3 : Int) (a4 : Int) (a5 : Int) (a6 : Int) (a7 : Int) (a8 : Int) (a9 : Int) (a10 : Int) (a11 : Int) (a12 : Int) (a13 : Int) (a14 : Int) (a15 : Int) (a16 : Int) (a17 : Int) (a18 : Int) (a19 : Int) : DD (Lf aboN aboR) :=
 .ask (Cm.run Cm.gtr a0 0)
   (.ask (Cm.run Cm.lss a0 0)
   (.leaf (.done (0, 0, 2) []))
   (.ask (Cm.run Cm.gtr a0 100000)
   (.leaf (.done (0, 0, 2) []))
   (.ask (Cm.run Cm.lss a1 0)
   (.leaf (.done (0, 0, 2) []))
   (.ask (Cm.run Cm.gtr a1 100000)
   (.leaf (.done (0, 0, 2) []))
   (.ask (Cm.run Cm.lss a2 0)
   (.leaf (.done (0, 0, 2) []))
   (.ask (Cm.run Cm.gtr a2 100000)
   (.leaf (.done (0, 0, 2) []))
   (.ask (Cm.run Cm.leq 0 a3)
   (.ask (Cm.run Cm.leq a3 a4)
   (.ask (Cm.run Cm.leq a4 1000)
   (.ask (Cm.run Cm.leq 0 a5)
   (.ask (Cm.run Cm.leq a5 a6)
   (.ask (Cm.run Cm.leq a6 1000)
   (.ask (Cm.run Cm.leq 1 a7)
   (.ask (Cm.run Cm.leq a7 a8)
   (.ask (Cm.run Cm.leq a8 100000000)
   (.ask (Cm.run Cm.leq 1 a9)
   (.ask (Cm.run Cm.leq a9 a10)
   (.ask (Cm.run Cm.leq a10 100000)
   (.ask (Cm.run Cm.leq 1 a11)
   (.ask (Cm.run Cm.leq a11 a12)
   (.ask (Cm.run Cm.leq a12 100000000)
   (.ask (Cm.run Cm.eql a13 1)
   (.ask (Cm.run Cm.leq 0 a14)
   (.ask (Cm.run Cm.leq a14 a15)
   (.ask (Cm.run Cm.leq a15 10000000000000)
   (.ask (Cm.run Cm.leq 0 a16)
   (.ask (Cm.run Cm.leq a16 a17)
   (.ask (Cm.run Cm.leq a17 0)
   (.ask (Cm.run Cm.leq 0 a18)
   (.ask (Cm.run Cm.leq a18 a19)
   (.ask (Cm.run Cm.leq a19 0)
   (.ask (Cm.run Cm.eql a13 3)
   (.leaf (.done (Ar.run Ar.mul IntKind.i64 a9 a18, Ar.run Ar.mul IntKind.i64 a10 a19, 0) []))
   (.ask (Cm.run Cm.eql a13 2)
   (.must (Cm.run Cm.neq (Ar.run Ar.add IntKind.i64 (Ar.run Ar.add IntKind.i64 (Ar.run Ar.mul IntKind.i64 a1 a4) (Ar.run Ar.mul IntKind.i64 a2 a6)) (Ar.run Ar.mul IntKind.i64 1000 a0)) 0)
   (.must (Cm.run Cm.neq (Ar.run Ar.add IntKind.i64 (Ar.run Ar.add IntKind.i64 (Ar.run Ar.mul IntKind.i64 a1 a3) (Ar.run Ar.mul IntKind.i64 a2 a5)) (Ar.run Ar.mul IntKind.i64 1000 a0)) 0)
   (.leaf (.done (Ar.run Ar.add IntKind.i64 (Ar.run Ar.quo IntKind.i64 (Ar.run Ar.mul IntKind.i64 a7 a16) 1000) (Ar.run Ar.quo IntKind.i64 (Ar.run Ar.mul IntKind.i64 1000 a14) (Ar.run Ar.add IntKind.i64 (Ar.run Ar.add IntKind.i64 (Ar.run Ar.mul IntKind.i64 a1 a4) (Ar.run Ar.mul IntKind.i64 a2 a6)) (Ar.run Ar.mul IntKind.i64 1000 a0))), Ar.run Ar.add IntKind.i64 (Ar.run Ar.quo IntKind.i64 (Ar.run Ar.mul IntKind.i64 a8 a17) 1000) (Ar.run Ar.quo IntKind.i64 (Ar.run Ar.mul IntKind.i64 1000 a15) (Ar.run Ar.add IntKind.i64 (Ar.run Ar.add IntKind.i64 (Ar.run Ar.mul IntKind.i64 a1 a3) (Ar.run Ar.mul IntKind.i64 a2 a5)) (Ar.run Ar.mul IntKind.i64 1000 a0))), 0) []))))
   (.ask (Cm.run Cm.eql a13 1)
   (.must (Cm.run Cm.neq (Ar.run Ar.add IntKind.i64 (Ar.run Ar.add IntKind.i64 (Ar.run Ar.mul IntKind.i64 a1 a4) (Ar.run Ar.mul IntKind.i64 a2 a6)) (Ar.run Ar.mul IntKind.i64 1000 a0)) 0)
   (.must (Cm.run Cm.neq (Ar.run Ar.add IntKind.i64 (Ar.run Ar.add IntKind.i64 (Ar.run Ar.mul IntKind.i64 a1 a3) (Ar.run Ar.mul IntKind.i64 a2 a5)) (Ar.run Ar.mul IntKind.i64 1000 a0)) 0)
   (.leaf (.done (Ar.run Ar.add IntKind.i64 0 (Ar.run Ar.quo IntKind.i64 (Ar.run Ar.mul IntKind.i64 1000 a14) (Ar.run Ar.add IntKind.i64 (Ar.run Ar.add IntKind.i64 (Ar.run Ar.mul IntKind.i64 a1 a4) (Ar.run Ar.mul IntKind.i64 a2 a6)) (Ar.run Ar.mul IntKind.i64 1000 a0))), Ar.run Ar.add IntKind.i64 0 (Ar.run Ar.quo IntKind.i64 (Ar.run Ar.mul IntKind.i64 1000 a15) (Ar.run Ar.add IntKind.i64 (Ar.run Ar.add IntKind.i64 (Ar.run Ar.mul IntKind.i64 a1 a3) (Ar.run Ar.mul IntKind.i64 a2 a5)) (Ar.run Ar.mul IntKind.i64 1000 a0))), 0) []))))
   (.leaf (.done (0, 0, 0) [])))))
   (.leaf (.done (0, 0, 2) [])))
   (.leaf (.done (0, 0, 2) [])))
   (.leaf (.done (0, 0, 2) [])))
   (.leaf (.done (0, 0, 2) [])))
   (.leaf (.done (0, 0, 2) [])))
   (.leaf (.done (0, 0, 2) [])))
   (.leaf (.done (0, 0, 2) [])))
   (.leaf (.done (0, 0, 2) [])))
   (.leaf (.done (0, 0, 2) [])))
   (.ask (Cm.run Cm.eql a13 2)
   (.ask (Cm.run Cm.leq 0 a14)
   (.ask (Cm.run Cm.leq a14 a15)
   (.ask (Cm.run Cm.leq a15 10000000000000)
   (.ask (Cm.run Cm.leq 0 a16)
   (.ask (Cm.run Cm.leq a16 a17)
   (.ask (Cm.run Cm.leq a17 100000)
   (.ask (Cm.run Cm.leq 0 a18)
   (.ask (Cm.run Cm.leq a18 a19)
   (.ask (Cm.run Cm.leq a19 0)
   (.ask (Cm.run Cm.eql a13 3)
   (.leaf (.done (Ar.run Ar.mul IntKind.i64 a9 a18, Ar.run Ar.mul IntKind.i64 a10 a19, 0) []))
   (.ask (Cm.run Cm.eql a13 2)
   (.must (Cm.run Cm.neq (Ar.run Ar.add IntKind.i64 (Ar.run Ar.add IntKind.i64 (Ar.run Ar.mul IntKind.i64 a1 a4) (Ar.run Ar.mul IntKind.i64 a2 a6)) (Ar.run Ar.mul IntKind.i64 1000 a0)) 0)
   (.must (Cm.run Cm.neq (Ar.run Ar.add IntKind.i64 (Ar.run Ar.add IntKind.i64 (Ar.run Ar.mul IntKind.i64 a1 a3) (Ar.run Ar.mul IntKind.i64 a2 a5)) (Ar.run Ar.mul IntKind.i64 1000 a0)) 0)
   (.leaf (.done (Ar.run Ar.add IntKind.i64 (Ar.run Ar.quo IntKind.i64 (Ar.run Ar.mul IntKind.i64 a7 a16) 1000) (Ar.run Ar.quo IntKind.i64 (Ar.run Ar.mul IntKind.i64 1000 a14) (Ar.run Ar.add IntKind.i64 (Ar.run Ar.add IntKind.i64 (Ar.run Ar.mul IntKind.i64 a1 a4) (Ar.run Ar.mul IntKind.i64 a2 a6)) (Ar.run Ar.mul IntKind.i64 1000 a0))), Ar.run Ar.add IntKind.i64 (Ar.run Ar.quo IntKind.i64 (Ar.run Ar.mul IntKind.i64 a8 a17) 1000) (Ar.run Ar.quo IntKind.i64 (Ar.run Ar.mul IntKind.i64 1000 a15) (Ar.run Ar.add IntKind.i64 (Ar.run Ar.add IntKind.i64 (Ar.run Ar.mul IntKind.i64 a1 a3) (Ar.run Ar.mul IntKind.i64 a2 a5)) (Ar.run Ar.mul IntKind.i64 1000 a0))), 0) []))))
   (.ask (Cm.run Cm.eql a13 1)
   (.must (Cm.run Cm.neq (Ar.run Ar.add IntKind.i64 (Ar.run Ar.add IntKind.i64 (Ar.run Ar.mul IntKind.i64 a1 a4) (Ar.run Ar.mul IntKind.i64 a2 a6)) (Ar.run Ar.mul IntKind.i64 1000 a0)) 0)
   (.must (Cm.run Cm.neq (Ar.run Ar.add IntKind.i64 (Ar.run Ar.add IntKind.i64 (Ar.run Ar.mul IntKind.i64 a1 a3) (Ar.run Ar.mul IntKind.i64 a2 a5)) (Ar.run Ar.mul IntKind.i64 1000 a0)) 0)
   (.leaf (.done (Ar.run Ar.add IntKind.i64 0 (Ar.run Ar.quo IntKind.i64 (Ar.run Ar.mul IntKind.i64 1000 a14) (Ar.run Ar.add IntKind.i64 (Ar.run Ar.add IntKind.i64 (Ar.run Ar.mul IntKind.i64 a1 a4) (Ar.run Ar.mul IntKind.i64 a2 a6)) (Ar.run Ar.mul IntKind.i64 1000 a0))), Ar.run Ar.add IntKind.i64 0 (Ar.run Ar.quo IntKind.i64 (Ar.run Ar.mul IntKind.i64 1000 a15) (Ar.run Ar.add IntKind.i64 (Ar.run Ar.add IntKind.i64 (Ar.run Ar.mul IntKind.i64 a1 a3) (Ar.run Ar.mul IntKind.i64 a2 a5)) (Ar.run Ar.mul IntKind.i64 1000 a0))), 0) []))))
   (.leaf (.done (0, 0, 0) [])))))
   (.leaf (.done (0, 0, 2) [])))
   (.leaf (.done (0, 0, 2) [])))
   (.leaf (.done (0, 0, 2) [])))
   (.leaf (.done (0, 0, 2) [])))
   (.leaf (.done (0, 0, 2) [])))
   (.leaf (.done (0, 0, 2) [])))
   (.leaf (.done (0, 0, 2) [])))
   (.leaf (.done (0, 0, 2) [])))
   (.leaf (.done (0, 0, 2) [])))
   (.ask (Cm.run Cm.eql a13 3)
   (.ask (Cm.run Cm.leq 0 a18)
   (.ask (Cm.run Cm.leq a18 a19)
   (.ask (Cm.run Cm.leq a19 100000)
   (.ask (Cm.run Cm.leq 0 a14)
   (.ask (Cm.run Cm.leq a14 a15)
   (.ask (Cm.run Cm.leq a15 0)
   (.ask (Cm.run Cm.leq 0 a16)
   (.ask (Cm.run Cm.leq a16 a17)
   (.ask (Cm.run Cm.leq a17 0)
   (.ask (Cm.run Cm.eql a13 3)
   (.leaf (.done (Ar.run Ar.mul IntKind.i64 a9 a18, Ar.run Ar.mul IntKind.i64 a10 a19, 0) []))
   (.ask (Cm.run Cm.eql a13 2)
   (.must (Cm.run Cm.neq (Ar.run Ar.add IntKind.i64 (Ar.run Ar.add IntKind.i64 (Ar.run Ar.mul IntKind.i64 a1 a4) (Ar.run Ar.mul IntKind.i64 a2 a6)) (Ar.run Ar.mul IntKind.i64 1000 a0)) 0)
   (.must (Cm.run Cm.neq (Ar.run Ar.add IntKind.i64 (Ar.run Ar.add IntKind.i64 (Ar.run Ar.mul IntKind.i64 a1 a3) (Ar.run Ar.mul IntKind.i64 a2 a5)) (Ar.run Ar.mul IntKind.i64 1000 a0)) 0)
   (.leaf (.done (Ar.run Ar.add IntKind.i64 (Ar.run Ar.quo IntKind.i64 (Ar.run Ar.mul IntKind.i64 a7 a16) 1000) (Ar.run Ar.quo IntKind.i64 (Ar.run Ar.mul IntKind.i64 1000 a14) (Ar.run Ar.add IntKind.i64 (Ar.run Ar.add IntKind.i64 (Ar.run Ar.mul IntKind.i64 a1 a4) (Ar.run Ar.mul IntKind.i64 a2 a6)) (Ar.run Ar.mul IntKind.i64 1000 a0))), Ar.run Ar.add IntKind.i64 (Ar.run Ar.quo IntKind.i64 (Ar.run Ar.mul IntKind.i64 a8 a17) 1000) (Ar.run Ar.quo IntKind.i64 (Ar.run Ar.mul IntKind.i64 1000 a15) (Ar.run Ar.add IntKind.i64 (Ar.run Ar.add IntKind.i64 (Ar.run Ar.mul IntKind.i64 a1 a3) (Ar.run Ar.mul IntKind.i64 a2 a5)) (Ar.run Ar.mul IntKind.i64 1000 a0))), 0) []))))
   (.ask (Cm.run Cm.eql a13 1)
   (.must (Cm.run Cm.neq (Ar.run Ar.add IntKind.i64 (Ar.run Ar.add IntKind.i64 (Ar.run Ar.mul IntKind.i64 a1 a4) (Ar.run Ar.mul IntKind.i64 a2 a6)) (Ar.run Ar.mul IntKind.i64 1000 a0)) 0)
   (.must (Cm.run Cm.neq (Ar.run Ar.add IntKind.i64 (Ar.run Ar.add IntKind.i64 (Ar.run Ar.mul IntKind.i64 a1 a3) (Ar.run Ar.mul IntKind.i64 a2 a5)) (Ar.run Ar.mul IntKind.i64 1000 a0)) 0)
   (.leaf (.done (Ar.run Ar.add IntKind.i64 0 (Ar.run Ar.quo IntKind.i64 (Ar.run Ar.mul IntKind.i64 1000 a14) (Ar.run Ar.add IntKind.i64 (Ar.run Ar.add IntKind.i64 (Ar.run Ar.mul IntKind.i64 a1 a4) (Ar.run Ar.mul IntKind.i64 a2 a6)) (Ar.run Ar.mul IntKind.i64 1000 a0))), Ar.run Ar.add IntKind.i64 0 (Ar.run Ar.quo IntKind.i64 (Ar.run Ar.mul IntKind.i64 1000 a15) (Ar.run Ar.add IntKind.i64 (Ar.run Ar.add IntKind.i64 (Ar.run Ar.mul IntKind.i64 a1 a3) (Ar.run Ar.mul IntKind.i64 a2 a5)) (Ar.run Ar.mul IntKind.i64 1000 a0))), 0) []))))
   (.leaf (.done (0, 0, 0) [])))))
   (.leaf (.done (0, 0, 2) [])))
   (.leaf (.done (0, 0, 2) [])))
   (.leaf (.done (0, 0, 2) [])))
   (.leaf (.done (0, 0, 2) [])))
   (.leaf (.done (0, 0, 2) [])))
   (.leaf (.done (0, 0, 2) [])))
   (.leaf (.done (0, 0, 2) [])))
   (.leaf (.done (0, 0, 2) [])))
   (.leaf (.done (0, 0, 2) [])))
   (.leaf (.done (0, 0, 2) [])))))
   (.leaf (.done (0, 0, 2) [])))
   (.leaf (.done (0, 0, 2) [])))
   (.leaf (.done (0, 0, 2) [])))
   (.leaf (.done (0, 0, 2) [])))
   (.leaf (.done (0, 0, 2) [])))
   (.leaf (.done (0, 0, 2) [])))
   (.leaf (.done (0, 0, 2) [])))
   (.leaf (.done (0, 0, 2) [])))
   (.leaf (.done (0, 0, 2) [])))
   (.leaf (.done (0, 0, 2) [])))
   (.leaf (.done (0, 0, 2) [])))
   (.leaf (.done (0, 0, 2) [])))
   (.leaf (.done (0, 0, 2) [])))
   (.leaf (.done (0, 0, 2) [])))
   (.leaf (.done (0, 0, 2) [])))))))))
   (.leaf (.done (0, 0, 2) []))

noncomputable def aboD (a0 : Int) (a1 : Int) (a2 : Int) (a3 : Int) (a4 : Int) (a5 : Int) (a6 : Int) (a7 : Int) (a8 : Int) (a9 : Int) (a10 : Int) (a11 : Int) (a12 : Int) (a13 : Int) (a14 : Int) (a15 : Int) (a16 : Int) (a17 : Int) (a18 : Int) (a19 : Int) : aboN → DD (Lf aboN aboR) := fun a => nomatch a

noncomputable def aboA (a0 : Int) (a1 : Int) (a2 : Int) (a3 : Int) (a4 : Int) (a5 : Int) (a6 : Int) (a7 : Int) (a8 : Int) (a9 : Int) (a10 : Int) (a11 : Int) (a12 : Int) (a13 : Int) (a14 : Int) (a15 : Int) (a16 : Int) (a17 : Int) (a18 : Int) (a19 : Int) : AF aboN aboR where
  code := aboCode
  base := 0
  nt := 22
  m := 400
  un := []
  W := []
  h0 := []
  args := [.agg [.int .i64 (.x a0), .int .i64 (.x a1), .int .i64 (.x a2), .int .i64 (.x a3), .int .i64 (.x a4), .int .i64 (.x a5), .int .i64 (.x a6), .int .i64 (.x a7), .int .i64 (.x a8), .int .i64 (.x a9), .int .i64 (.x a10), .int .i64 (.x a11), .int .i64 (.x a12)], .agg [.int .i64 (.x a13), .int .i64 (.x a14), .int .i64 (.x a15), .int .i64 (.x a16), .int .i64 (.x a17), .int .i64 (.x a18), .int .i64 (.x a19)]]
  res := (Try.f13).results.toList
  path := fun a => nomatch a
  pd := fun a => nomatch a
  D0 := aboD0 a0 a1 a2 a3 a4 a5 a6 a7 a8 a9 a10 a11 a12 a13 a14 a15 a16 a17 a18 a19
  D := aboD a0 a1 a2 a3 a4 a5 a6 a7 a8 a9 a10 a11 a12 a13 a14 a15 a16 a17 a18 a19
  rc := (fun v => .tup [.agg [.int .i64 (.x v.1), .int .i64 (.x v.2.1)], .int .i64 (.x v.2.2)])
  rh := (fun v => [])
  rn := (fun v => 0)
  rx := (fun v => [])
  rgo := (fun _ => none)


theorem abostart (a0 : Int) (a1 : Int) (a2 : Int) (a3 : Int) (a4 : Int) (a5 : Int) (a6 : Int) (a7 : Int) (a8 : Int) (a9 : Int) (a10 : Int) (a11 : Int) (a12 : Int) (a13 : Int) (a14 : Int) (a15 : Int) (a16 : Int) (a17 : Int) (a18 : Int) (a19 : Int) : AF.edgeOk (aboA a0 a1 a2 a3 a4 a5 a6 a7 a8 a9 a10 a11 a12 a13 a14 a15 a16 a17 a18 a19) (ctxOf Try.prog memo0) (aboD0 a0 a1 a2 a3 a4 a5 a6 a7 a8 a9 a10 a11 a12 a13 a14 a15 a16 a17 a18 a19) (AF.run0 (aboA a0 a1 a2 a3 a4 a5 a6 a7 a8 a9 a10 a11 a12 a13 a14 a15 a16 a17 a18 a19) (ctxOf Try.prog memo0)) := by unfold AF.edgeOk; kernel_rfl

theorem abook (a0 : Int) (a1 : Int) (a2 : Int) (a3 : Int) (a4 : Int) (a5 : Int) (a6 : Int) (a7 : Int) (a8 : Int) (a9 : Int) (a10 : Int) (a11 : Int) (a12 : Int) (a13 : Int) (a14 : Int) (a15 : Int) (a16 : Int) (a17 : Int) (a18 : Int) (a19 : Int) : (aboA a0 a1 a2 a3 a4 a5 a6 a7 a8 a9 a10 a11 a12 a13 a14 a15 a16 a17 a18 a19).Ok Try.prog (ctxOf Try.prog memo0) where
  regs := by kernel_rfl
  h0 := by kernel_rfl
  start := abostart a0 a1 a2 a3 a4 a5 a6 a7 a8 a9 a10 a11 a12 a13 a14 a15 a16 a17 a18 a19
  node := fun a _ => nomatch a
  pd := fun a => nomatch a
  le := fun a => nomatch a
  rd := fun v => ⟨⟨fa_nil, fa_nil, fa_nil, rfl⟩, rfl⟩
  wb := rfl


theorem abohR {ρ : Env} (a0 : Int) (a1 : Int) (a2 : Int) (a3 : Int) (a4 : Int) (a5 : Int) (a6 : Int) (a7 : Int) (a8 : Int) (a9 : Int) (a10 : Int) (a11 : Int) (a12 : Int) (a13 : Int) (a14 : Int) (a15 : Int) (a16 : Int) (a17 : Int) (a18 : Int) (a19 : Int) (hM : MemoOk Try.prog (ctxOf Try.prog memo0) ρ) : ∀ X a q n D, FxOk ρ X → X.base = (aboA a0 a1 a2 a3 a4 a5 a6 a7 a8 a9 a10 a11 a12 a13 a14 a15 a16 a17 a18 a19).base → X.nt = (aboA a0 a1 a2 a3 a4 a5 a6 a7 a8 a9 a10 a11 a12 a13 a14 a15 a16 a17 a18 a19).nt → X.W = (aboA a0 a1 a2 a3 a4 a5 a6 a7 a8 a9 a10 a11 a12 a13 a14 a15 a16 a17 a18 a19).W → (aboA a0 a1 a2 a3 a4 a5 a6 a7 a8 a9 a10 a11 a12 a13 a14 a15 a16 a17 a18 a19).rgo a = some q → q n = some D → (aboA a0 a1 a2 a3 a4 a5 a6 a7 a8 a9 a10 a11 a12 a13 a14 a15 a16 a17 a18 a19).RangeOk Try.prog ρ X a D := AF.noRange rfl

theorem aboctr {ρ : Env} (a0 : Int) (a1 : Int) (a2 : Int) (a3 : Int) (a4 : Int) (a5 : Int) (a6 : Int) (a7 : Int) (a8 : Int) (a9 : Int) (a10 : Int) (a11 : Int) (a12 : Int) (a13 : Int) (a14 : Int) (a15 : Int) (a16 : Int) (a17 : Int) (a18 : Int) (a19 : Int) {n : Nat} {v : aboR} (hM : MemoOk Try.prog (ctxOf Try.prog memo0) ρ) (hv : (aboA a0 a1 a2 a3 a4 a5 a6 a7 a8 a9 a10 a11 a12 a13 a14 a15 a16 a17 a18 a19).run n = some v) :
    Ctr Try.prog ρ 13 (aboA a0 a1 a2 a3 a4 a5 a6 a7 a8 a9 a10 a11 a12 a13 a14 a15 a16 a17 a18 a19).args (aboA a0 a1 a2 a3 a4 a5 a6 a7 a8 a9 a10 a11 a12 a13 a14 a15 a16 a17 a18 a19).H0 (aboA a0 a1 a2 a3 a4 a5 a6 a7 a8 a9 a10 a11 a12 a13 a14 a15 a16 a17 a18 a19).base (aboA a0 a1 a2 a3 a4 a5 a6 a7 a8 a9 a10 a11 a12 a13 a14 a15 a16 a17 a18 a19).W ((aboA a0 a1 a2 a3 a4 a5 a6 a7 a8 a9 a10 a11 a12 a13 a14 a15 a16 a17 a18 a19).rc v) (putH (aboA a0 a1 a2 a3 a4 a5 a6 a7 a8 a9 a10 a11 a12 a13 a14 a15 a16 a17 a18 a19).H0 ((aboA a0 a1 a2 a3 a4 a5 a6 a7 a8 a9 a10 a11 a12 a13 a14 a15 a16 a17 a18 a19).rh v ++ (aboA a0 a1 a2 a3 a4 a5 a6 a7 a8 a9 a10 a11 a12 a13 a14 a15 a16 a17 a18 a19).rx v)) ((aboA a0 a1 a2 a3 a4 a5 a6 a7 a8 a9 a10 a11 a12 a13 a14 a15 a16 a17 a18 a19).rn v) :=
  AF.ctr try_ok hM (abook a0 a1 a2 a3 a4 a5 a6 a7 a8 a9 a10 a11 a12 a13 a14 a15 a16 a17 a18 a19) (fn := Try.f13) Try.func13 rfl rfl (Nat.le_of_ble_eq_true rfl) rfl (abohR a0 a1 a2 a3 a4 a5 a6 a7 a8 a9 a10 a11 a12 a13 a14 a15 a16 a17 a18 a19 hM) hv


abbrev aboP : List AP := [.agg [.int .i64, .int .i64, .int .i64, .int .i64, .int .i64, .int .i64, .int .i64, .int .i64, .int .i64, .int .i64, .int .i64, .int .i64, .int .i64], .agg [.int .i64, .int .i64, .int .i64, .int .i64, .int .i64, .int .i64, .int .i64]]
noncomputable def aboF (v : AV) : AF aboN aboR := aboA (v.i.getD 0 0) (v.i.getD 1 0) (v.i.getD 2 0) (v.i.getD 3 0) (v.i.getD 4 0) (v.i.getD 5 0) (v.i.getD 6 0) (v.i.getD 7 0) (v.i.getD 8 0) (v.i.getD 9 0) (v.i.getD 10 0) (v.i.getD 11 0) (v.i.getD 12 0) (v.i.getD 13 0) (v.i.getD 14 0) (v.i.getD 15 0) (v.i.getD 16 0) (v.i.getD 17 0) (v.i.getD 18 0) (v.i.getD 19 0)
theorem aboknown {ρ : Env} (hM : MemoOk Try.prog (ctxOf Try.prog memo0) ρ) : KnownA Try.prog ρ 13 aboP aboF where
  fn := ⟨Try.f13, Try.func13, rfl⟩
  args := fun v => rfl
  plain := fun v r => rfl
  ctr := fun v n r h => aboctr (v.i.getD 0 0) (v.i.getD 1 0) (v.i.getD 2 0) (v.i.getD 3 0) (v.i.getD 4 0) (v.i.getD 5 0) (v.i.getD 6 0) (v.i.getD 7 0) (v.i.getD 8 0) (v.i.getD 9 0) (v.i.getD 10 0) (v.i.getD 11 0) (v.i.getD 12 0) (v.i.getD 13 0) (v.i.getD 14 0) (v.i.getD 15 0) (v.i.getD 16 0) (v.i.getD 17 0) (v.i.getD 18 0) (v.i.getD 19 0) hM h

end Go.Proofs.Ytgnmdknbnkljbaa.Cx

/- bolt.Force: the forces of a way. Made by tools/gen_bcon.py. -/
namespace Go.Proofs.Ytgnmdknbnkljbaa.Cx
set_option linter.unusedVariables false
set_option linter.unusedSimpArgs false
set_option maxRecDepth 100000
set_option maxHeartbeats 4000000
open Go Go.RowKit

theorem abo_ok (a0 a1 a2 a3 a4 a5 a6 a7 a8 a9 a10 a11 a12 a13 a14 a15 a16 a17 a18 a19 : Int) (h : KindP a0 a1 a2 a3 a4 a5 a6 a7 a8 a9 a10 a11 a12) (g : WayP a13 a14 a15 a16 a17 a18 a19) : AF.fin (aboA a0 a1 a2 a3 a4 a5 a6 a7 a8 a9 a10 a11 a12 a13 a14 a15 a16 a17 a18 a19) = true ∧ (AF.val (aboA a0 a1 a2 a3 a4 a5 a6 a7 a8 a9 a10 a11 a12 a13 a14 a15 a16 a17 a18 a19)).1 = fMin a0 a1 a2 a3 a4 a5 a6 a7 a8 a9 a10 a11 a12 a13 a14 a15 a16 a17 a18 a19 ∧ (AF.val (aboA a0 a1 a2 a3 a4 a5 a6 a7 a8 a9 a10 a11 a12 a13 a14 a15 a16 a17 a18 a19)).2.1 = fMax a0 a1 a2 a3 a4 a5 a6 a7 a8 a9 a10 a11 a12 a13 a14 a15 a16 a17 a18 a19 ∧ (AF.val (aboA a0 a1 a2 a3 a4 a5 a6 a7 a8 a9 a10 a11 a12 a13 a14 a15 a16 a17 a18 a19)).2.2 = 0 :=
  AF.val_sat (Inv := fun _ => False) (E := fun (v : aboR) => v.1 = fMin a0 a1 a2 a3 a4 a5 a6 a7 a8 a9 a10 a11 a12 a13 a14 a15 a16 a17 a18 a19 ∧ v.2.1 = fMax a0 a1 a2 a3 a4 a5 a6 a7 a8 a9 a10 a11 a12 a13 a14 a15 a16 a17 a18 a19 ∧ v.2.2 = 0) (fun _ => 0) (fun _ => rfl) (fun a => nomatch a) (by
    obtain ⟨e1, e2, e3, e4, e5, e6, e7, e8, e9, e10, e11, e12, d1, d2, f3, f2, f1, r1, r2⟩ := force_eqs h g
    show DD.sat _ _ (aboD0 a0 a1 a2 a3 a4 a5 a6 a7 a8 a9 a10 a11 a12 a13 a14 a15 a16 a17 a18 a19)
    unfold aboD0
    rw [e1, e2, e3, e4, e5, e6, e7, e8, e9, e10, e11, e12]
    unfold KindP at h
    unfold WayP at g
    generalize fMin a0 a1 a2 a3 a4 a5 a6 a7 a8 a9 a10 a11 a12 a13 a14 a15 a16 a17 a18 a19 = fm at *
    generalize fMax a0 a1 a2 a3 a4 a5 a6 a7 a8 a9 a10 a11 a12 a13 a14 a15 a16 a17 a18 a19 = fM at *
    generalize (1000 * a14).tdiv (armV a0 a1 a2 a4 a6) = q1 at *
    generalize (1000 * a15).tdiv (armV a0 a1 a2 a3 a5) = q2 at *
    generalize (a7 * a16).tdiv 1000 = q3 at *
    generalize (a8 * a17).tdiv 1000 = q4 at *
    generalize a9 * a18 = q5 at *
    generalize a10 * a19 = q6 at *
    generalize armV a0 a1 a2 a4 a6 = q7 at *
    generalize armV a0 a1 a2 a3 a5 = q8 at *
    clear e1 e2 e3 e4 e5 e6 e7 e8 e9 e10 e11 e12
    
    simp only [DD.sat, cmLss, cmLeq, cmGtr, cmGeq, cmEql, cmNeq, cmLssF, cmLeqF, cmGtrF, cmGeqF, cmEqlF, cmNeqF, Prod.mk.injEq, reduceCtorEq, imp_false, imp_true_iff, and_true, true_and, Classical.not_not, forall_const, Bool.false_eq_true, true_iff, false_iff]
    repeat' (first | (intro _) | (apply And.intro))
    all_goals omega)
theorem abo_bad (a0 a1 a2 a3 a4 a5 a6 a7 a8 a9 a10 a11 a12 a13 a14 a15 a16 a17 a18 a19 : Int) (h : ¬ (KindP a0 a1 a2 a3 a4 a5 a6 a7 a8 a9 a10 a11 a12 ∧ WayP a13 a14 a15 a16 a17 a18 a19)) : AF.fin (aboA a0 a1 a2 a3 a4 a5 a6 a7 a8 a9 a10 a11 a12 a13 a14 a15 a16 a17 a18 a19) = true ∧ AF.val (aboA a0 a1 a2 a3 a4 a5 a6 a7 a8 a9 a10 a11 a12 a13 a14 a15 a16 a17 a18 a19) = (0, 0, 2) :=
  AF.val_sat (Inv := fun _ => False) (E := fun (v : aboR) => v = (0, 0, 2)) (fun _ => 0) (fun _ => rfl) (fun a => nomatch a) (by
    show DD.sat _ _ (aboD0 a0 a1 a2 a3 a4 a5 a6 a7 a8 a9 a10 a11 a12 a13 a14 a15 a16 a17 a18 a19)
    unfold KindP WayP at h
    unfold aboD0
    simp only [DD.sat, cmLss, cmLeq, cmGtr, cmGeq, cmEql, cmNeq, cmLssF, cmLeqF, cmGtrF, cmGeqF, cmEqlF, cmNeqF, Prod.mk.injEq, reduceCtorEq, imp_false, imp_true_iff, and_true, true_and, Classical.not_not, forall_const, Bool.false_eq_true]
    repeat' (first | (intro _) | (apply And.intro))
    all_goals omega)
end Go.Proofs.Ytgnmdknbnkljbaa.Cx

/- acme/acmeref09.Kind as an automaton. Made by tools/cxauto.py. -/
namespace Go.Proofs.Ytgnmdknbnkljbaa.Cx
set_option linter.unusedVariables false
set_option linter.unusedSimpArgs false
set_option maxRecDepth 100000
open Go Go.Proofs Go.RowKit

noncomputable abbrev abkCode : Code := funcCode Try.f16


abbrev abkN := Empty

abbrev abkR := Bool

noncomputable def abkD0 (a0 : Int) (a1 : Int) (a2 : Int) (a3 : Int) (a4 : Int) (a5 : Int) (a6 : Int) (a7 : Int) (a8 : Int) (a9 : Int) (a10 : Int) (a11 : Int) (a12 : Int) : DD (Lf abkN abkR) :=
 .ask (Cm.run Cm.geq a0 1)
   (.ask (Cm.run Cm.leq a0 100000)
   (.ask (Cm.run Cm.geq a1 0)
   (.ask (Cm.run Cm.leq a1 100000)
   (.ask (Cm.run Cm.geq a2 0)
   (.ask (Cm.run Cm.leq a2 100000)
   (.ask (Cm.run Cm.geq a3 0)
   (.ask (Cm.run Cm.leq a3 a4)
   (.ask (Cm.run Cm.leq a4 1000)
   (.ask (Cm.run Cm.geq a5 0)
   (.ask (Cm.run Cm.leq a5 a6)
   (.ask (Cm.run Cm.leq a6 1000)
   (.ask (Cm.run Cm.geq a7 1)
   (.ask (Cm.run Cm.leq a7 a8)
   (.ask (Cm.run Cm.leq a8 100000000)
   (.ask (Cm.run Cm.geq a9 1)
   (.ask (Cm.run Cm.leq a9 a10)
   (.ask (Cm.run Cm.leq a10 100000)
   (.ask (Cm.run Cm.geq a11 1)
   (.ask (Cm.run Cm.leq a11 a12)
   (.ask (Cm.run Cm.leq a12 100000000)
   (.leaf (.done true []))
   (.leaf (.done false [])))
   (.leaf (.done false [])))
   (.leaf (.done false [])))
   (.leaf (.done false [])))
   (.leaf (.done false [])))
   (.leaf (.done false [])))
   (.leaf (.done false [])))
   (.leaf (.done false [])))
   (.leaf (.done false [])))
   (.leaf (.done false [])))
   (.leaf (.done false [])))
   (.leaf (.done false [])))
   (.leaf (.done false [])))
   (.leaf (.done false [])))
   (.leaf (.done false [])))
   (.leaf (.done false [])))
   (.leaf (.done false [])))
   (.leaf (.done false [])))
   (.leaf (.done false [])))
   (.leaf (.done false [])))
   (.leaf (.done false []))

noncomputable def abkD (a0 : Int) (a1 : Int) (a2 : Int) (a3 : Int) (a4 : Int) (a5 : Int) (a6 : Int) (a7 : Int) (a8 : Int) (a9 : Int) (a10 : Int) (a11 : Int) (a12 : Int) : abkN → DD (Lf abkN abkR) := fun a => nomatch a

noncomputable def abkA (a0 : Int) (a1 : Int) (a2 : Int) (a3 : Int) (a4 : Int) (a5 : Int) (a6 : Int) (a7 : Int) (a8 : Int) (a9 : Int) (a10 : Int) (a11 : Int) (a12 : Int) : AF abkN abkR where
  code := abkCode
  base := 0
  nt := 41
  m := 400
  un := []
  W := []
  h0 := []
  args := [.agg [.int .i64 (.x a0), .int .i64 (.x a1), .int .i64 (.x a2), .int .i64 (.x a3), .int .i64 (.x a4), .int .i64 (.x a5), .int .i64 (.x a6), .int .i64 (.x a7), .int .i64 (.x a8), .int .i64 (.x a9), .int .i64 (.x a10), .int .i64 (.x a11), .int .i64 (.x a12)]]
  res := (Try.f16).results.toList
  path := fun a => nomatch a
  pd := fun a => nomatch a
  D0 := abkD0 a0 a1 a2 a3 a4 a5 a6 a7 a8 a9 a10 a11 a12
  D := abkD a0 a1 a2 a3 a4 a5 a6 a7 a8 a9 a10 a11 a12
  rc := (fun v => .bool (.x v))
  rh := (fun v => [])
  rn := (fun v => 0)
  rx := (fun v => [])
  rgo := (fun _ => none)


theorem abkstart (a0 : Int) (a1 : Int) (a2 : Int) (a3 : Int) (a4 : Int) (a5 : Int) (a6 : Int) (a7 : Int) (a8 : Int) (a9 : Int) (a10 : Int) (a11 : Int) (a12 : Int) : AF.edgeOk (abkA a0 a1 a2 a3 a4 a5 a6 a7 a8 a9 a10 a11 a12) (ctxOf Try.prog memo0) (abkD0 a0 a1 a2 a3 a4 a5 a6 a7 a8 a9 a10 a11 a12) (AF.run0 (abkA a0 a1 a2 a3 a4 a5 a6 a7 a8 a9 a10 a11 a12) (ctxOf Try.prog memo0)) := by unfold AF.edgeOk; kernel_rfl

theorem abkok (a0 : Int) (a1 : Int) (a2 : Int) (a3 : Int) (a4 : Int) (a5 : Int) (a6 : Int) (a7 : Int) (a8 : Int) (a9 : Int) (a10 : Int) (a11 : Int) (a12 : Int) : (abkA a0 a1 a2 a3 a4 a5 a6 a7 a8 a9 a10 a11 a12).Ok Try.prog (ctxOf Try.prog memo0) where
  regs := by kernel_rfl
  h0 := by kernel_rfl
  start := abkstart a0 a1 a2 a3 a4 a5 a6 a7 a8 a9 a10 a11 a12
  node := fun a _ => nomatch a
  pd := fun a => nomatch a
  le := fun a => nomatch a
  rd := fun v => ⟨⟨fa_nil, fa_nil, fa_nil, rfl⟩, rfl⟩
  wb := rfl


theorem abkhR {ρ : Env} (a0 : Int) (a1 : Int) (a2 : Int) (a3 : Int) (a4 : Int) (a5 : Int) (a6 : Int) (a7 : Int) (a8 : Int) (a9 : Int) (a10 : Int) (a11 : Int) (a12 : Int) (hM : MemoOk Try.prog (ctxOf Try.prog memo0) ρ) : ∀ X a q n D, FxOk ρ X → X.base = (abkA a0 a1 a2 a3 a4 a5 a6 a7 a8 a9 a10 a11 a12).base → X.nt = (abkA a0 a1 a2 a3 a4 a5 a6 a7 a8 a9 a10 a11 a12).nt → X.W = (abkA a0 a1 a2 a3 a4 a5 a6 a7 a8 a9 a10 a11 a12).W → (abkA a0 a1 a2 a3 a4 a5 a6 a7 a8 a9 a10 a11 a12).rgo a = some q → q n = some D → (abkA a0 a1 a2 a3 a4 a5 a6 a7 a8 a9 a10 a11 a12).RangeOk Try.prog ρ X a D := AF.noRange rfl

theorem abkctr {ρ : Env} (a0 : Int) (a1 : Int) (a2 : Int) (a3 : Int) (a4 : Int) (a5 : Int) (a6 : Int) (a7 : Int) (a8 : Int) (a9 : Int) (a10 : Int) (a11 : Int) (a12 : Int) {n : Nat} {v : abkR} (hM : MemoOk Try.prog (ctxOf Try.prog memo0) ρ) (hv : (abkA a0 a1 a2 a3 a4 a5 a6 a7 a8 a9 a10 a11 a12).run n = some v) :
    Ctr Try.prog ρ 16 (abkA a0 a1 a2 a3 a4 a5 a6 a7 a8 a9 a10 a11 a12).args (abkA a0 a1 a2 a3 a4 a5 a6 a7 a8 a9 a10 a11 a12).H0 (abkA a0 a1 a2 a3 a4 a5 a6 a7 a8 a9 a10 a11 a12).base (abkA a0 a1 a2 a3 a4 a5 a6 a7 a8 a9 a10 a11 a12).W ((abkA a0 a1 a2 a3 a4 a5 a6 a7 a8 a9 a10 a11 a12).rc v) (putH (abkA a0 a1 a2 a3 a4 a5 a6 a7 a8 a9 a10 a11 a12).H0 ((abkA a0 a1 a2 a3 a4 a5 a6 a7 a8 a9 a10 a11 a12).rh v ++ (abkA a0 a1 a2 a3 a4 a5 a6 a7 a8 a9 a10 a11 a12).rx v)) ((abkA a0 a1 a2 a3 a4 a5 a6 a7 a8 a9 a10 a11 a12).rn v) :=
  AF.ctr try_ok hM (abkok a0 a1 a2 a3 a4 a5 a6 a7 a8 a9 a10 a11 a12) (fn := Try.f16) Try.func16 rfl rfl (Nat.le_of_ble_eq_true rfl) rfl (abkhR a0 a1 a2 a3 a4 a5 a6 a7 a8 a9 a10 a11 a12 hM) hv


abbrev abkP : List AP := [.agg [.int .i64, .int .i64, .int .i64, .int .i64, .int .i64, .int .i64, .int .i64, .int .i64, .int .i64, .int .i64, .int .i64, .int .i64, .int .i64]]
noncomputable def abkF (v : AV) : AF abkN abkR := abkA (v.i.getD 0 0) (v.i.getD 1 0) (v.i.getD 2 0) (v.i.getD 3 0) (v.i.getD 4 0) (v.i.getD 5 0) (v.i.getD 6 0) (v.i.getD 7 0) (v.i.getD 8 0) (v.i.getD 9 0) (v.i.getD 10 0) (v.i.getD 11 0) (v.i.getD 12 0)
theorem abkknown {ρ : Env} (hM : MemoOk Try.prog (ctxOf Try.prog memo0) ρ) : KnownA Try.prog ρ 16 abkP abkF where
  fn := ⟨Try.f16, Try.func16, rfl⟩
  args := fun v => rfl
  plain := fun v r => rfl
  ctr := fun v n r h => abkctr (v.i.getD 0 0) (v.i.getD 1 0) (v.i.getD 2 0) (v.i.getD 3 0) (v.i.getD 4 0) (v.i.getD 5 0) (v.i.getD 6 0) (v.i.getD 7 0) (v.i.getD 8 0) (v.i.getD 9 0) (v.i.getD 10 0) (v.i.getD 11 0) (v.i.getD 12 0) hM h

end Go.Proofs.Ytgnmdknbnkljbaa.Cx

/- acmeref09.Kind: whether a kind is valid. Made by tools/gen_bcon.py. -/
namespace Go.Proofs.Ytgnmdknbnkljbaa.Cx
set_option linter.unusedVariables false
set_option linter.unusedSimpArgs false
set_option maxRecDepth 100000
set_option maxHeartbeats 4000000
open Go Go.RowKit

theorem abk_val (a0 a1 a2 a3 a4 a5 a6 a7 a8 a9 a10 a11 a12 : Int) : AF.fin (abkA a0 a1 a2 a3 a4 a5 a6 a7 a8 a9 a10 a11 a12) = true ∧ ((KindP a0 a1 a2 a3 a4 a5 a6 a7 a8 a9 a10 a11 a12 → AF.val (abkA a0 a1 a2 a3 a4 a5 a6 a7 a8 a9 a10 a11 a12) = true) ∧ (¬ KindP a0 a1 a2 a3 a4 a5 a6 a7 a8 a9 a10 a11 a12 → AF.val (abkA a0 a1 a2 a3 a4 a5 a6 a7 a8 a9 a10 a11 a12) = false)) :=
  AF.val_sat (Inv := fun _ => False) (E := fun v => (KindP a0 a1 a2 a3 a4 a5 a6 a7 a8 a9 a10 a11 a12 → v = true) ∧ (¬ KindP a0 a1 a2 a3 a4 a5 a6 a7 a8 a9 a10 a11 a12 → v = false)) (fun _ => 0) (fun _ => rfl) (fun a => nomatch a) (by
    show DD.sat _ _ (abkD0 a0 a1 a2 a3 a4 a5 a6 a7 a8 a9 a10 a11 a12)
    unfold abkD0 KindP
    simp only [DD.sat, cmLss, cmLeq, cmGtr, cmGeq, cmEql, cmNeq, cmLssF, cmLeqF, cmGtrF, cmGeqF, cmEqlF, cmNeqF, reduceCtorEq, imp_false, imp_true_iff, and_true, true_and, Classical.not_not, forall_const]
    repeat' (first | (intro _) | (apply And.intro))
    all_goals omega)
end Go.Proofs.Ytgnmdknbnkljbaa.Cx

/- acme/acmeref09.Way as an automaton. Made by tools/cxauto.py. -/
namespace Go.Proofs.Ytgnmdknbnkljbaa.Cx
set_option linter.unusedVariables false
set_option linter.unusedSimpArgs false
set_option maxRecDepth 100000
open Go Go.Proofs Go.RowKit

noncomputable abbrev abwCode : Code := funcCode Try.f17


abbrev abwN := Empty

abbrev abwR := Bool

noncomputable def abwD0 (a0 : Int) (a1 : Int) (a2 : Int) (a3 : Int) (a4 : Int) (a5 : Int) (a6 : Int) : DD (Lf abwN abwR) :=
 .ask (Cm.run Cm.eql a0 3)
   (.ask (Cm.run Cm.eql a1 0)
   (.ask (Cm.run Cm.eql a2 0)
   (.ask (Cm.run Cm.eql a3 0)
   (.ask (Cm.run Cm.eql a4 0)
   (.ask (Cm.run Cm.geq a5 0)
   (.ask (Cm.run Cm.leq a5 a6)
   (.ask (Cm.run Cm.leq a6 100000)
   (.leaf (.done true []))
   (.leaf (.done false [])))
   (.leaf (.done false [])))
   (.leaf (.done false [])))
   (.leaf (.done false [])))
   (.leaf (.done false [])))
   (.leaf (.done false [])))
   (.leaf (.done false [])))
   (.ask (Cm.run Cm.geq a1 0)
   (.ask (Cm.run Cm.leq a1 a2)
   (.ask (Cm.run Cm.leq a2 10000000000000)
   (.ask (Cm.run Cm.eql a5 0)
   (.ask (Cm.run Cm.eql a6 0)
   (.ask (Cm.run Cm.eql a0 1)
   (.ask (Cm.run Cm.eql a3 0)
   (.ask (Cm.run Cm.eql a4 0)
   (.leaf (.done true []))
   (.ask (Cm.run Cm.eql a0 2)
   (.ask (Cm.run Cm.geq a3 0)
   (.ask (Cm.run Cm.leq a3 a4)
   (.ask (Cm.run Cm.leq a4 100000)
   (.leaf (.done true []))
   (.leaf (.done false [])))
   (.leaf (.done false [])))
   (.leaf (.done false [])))
   (.leaf (.done false []))))
   (.ask (Cm.run Cm.eql a0 2)
   (.ask (Cm.run Cm.geq a3 0)
   (.ask (Cm.run Cm.leq a3 a4)
   (.ask (Cm.run Cm.leq a4 100000)
   (.leaf (.done true []))
   (.leaf (.done false [])))
   (.leaf (.done false [])))
   (.leaf (.done false [])))
   (.leaf (.done false []))))
   (.ask (Cm.run Cm.eql a0 2)
   (.ask (Cm.run Cm.geq a3 0)
   (.ask (Cm.run Cm.leq a3 a4)
   (.ask (Cm.run Cm.leq a4 100000)
   (.leaf (.done true []))
   (.leaf (.done false [])))
   (.leaf (.done false [])))
   (.leaf (.done false [])))
   (.leaf (.done false []))))
   (.leaf (.done false [])))
   (.leaf (.done false [])))
   (.leaf (.done false [])))
   (.leaf (.done false [])))
   (.leaf (.done false [])))

noncomputable def abwD (a0 : Int) (a1 : Int) (a2 : Int) (a3 : Int) (a4 : Int) (a5 : Int) (a6 : Int) : abwN → DD (Lf abwN abwR) := fun a => nomatch a

noncomputable def abwA (a0 : Int) (a1 : Int) (a2 : Int) (a3 : Int) (a4 : Int) (a5 : Int) (a6 : Int) : AF abwN abwR where
  code := abwCode
  base := 0
  nt := 52
  m := 400
  un := []
  W := []
  h0 := []
  args := [.agg [.int .i64 (.x a0), .int .i64 (.x a1), .int .i64 (.x a2), .int .i64 (.x a3), .int .i64 (.x a4), .int .i64 (.x a5), .int .i64 (.x a6)]]
  res := (Try.f17).results.toList
  path := fun a => nomatch a
  pd := fun a => nomatch a
  D0 := abwD0 a0 a1 a2 a3 a4 a5 a6
  D := abwD a0 a1 a2 a3 a4 a5 a6
  rc := (fun v => .bool (.x v))
  rh := (fun v => [])
  rn := (fun v => 0)
  rx := (fun v => [])
  rgo := (fun _ => none)


theorem abwstart (a0 : Int) (a1 : Int) (a2 : Int) (a3 : Int) (a4 : Int) (a5 : Int) (a6 : Int) : AF.edgeOk (abwA a0 a1 a2 a3 a4 a5 a6) (ctxOf Try.prog memo0) (abwD0 a0 a1 a2 a3 a4 a5 a6) (AF.run0 (abwA a0 a1 a2 a3 a4 a5 a6) (ctxOf Try.prog memo0)) := by unfold AF.edgeOk; kernel_rfl

theorem abwok (a0 : Int) (a1 : Int) (a2 : Int) (a3 : Int) (a4 : Int) (a5 : Int) (a6 : Int) : (abwA a0 a1 a2 a3 a4 a5 a6).Ok Try.prog (ctxOf Try.prog memo0) where
  regs := by kernel_rfl
  h0 := by kernel_rfl
  start := abwstart a0 a1 a2 a3 a4 a5 a6
  node := fun a _ => nomatch a
  pd := fun a => nomatch a
  le := fun a => nomatch a
  rd := fun v => ⟨⟨fa_nil, fa_nil, fa_nil, rfl⟩, rfl⟩
  wb := rfl


theorem abwhR {ρ : Env} (a0 : Int) (a1 : Int) (a2 : Int) (a3 : Int) (a4 : Int) (a5 : Int) (a6 : Int) (hM : MemoOk Try.prog (ctxOf Try.prog memo0) ρ) : ∀ X a q n D, FxOk ρ X → X.base = (abwA a0 a1 a2 a3 a4 a5 a6).base → X.nt = (abwA a0 a1 a2 a3 a4 a5 a6).nt → X.W = (abwA a0 a1 a2 a3 a4 a5 a6).W → (abwA a0 a1 a2 a3 a4 a5 a6).rgo a = some q → q n = some D → (abwA a0 a1 a2 a3 a4 a5 a6).RangeOk Try.prog ρ X a D := AF.noRange rfl

theorem abwctr {ρ : Env} (a0 : Int) (a1 : Int) (a2 : Int) (a3 : Int) (a4 : Int) (a5 : Int) (a6 : Int) {n : Nat} {v : abwR} (hM : MemoOk Try.prog (ctxOf Try.prog memo0) ρ) (hv : (abwA a0 a1 a2 a3 a4 a5 a6).run n = some v) :
    Ctr Try.prog ρ 17 (abwA a0 a1 a2 a3 a4 a5 a6).args (abwA a0 a1 a2 a3 a4 a5 a6).H0 (abwA a0 a1 a2 a3 a4 a5 a6).base (abwA a0 a1 a2 a3 a4 a5 a6).W ((abwA a0 a1 a2 a3 a4 a5 a6).rc v) (putH (abwA a0 a1 a2 a3 a4 a5 a6).H0 ((abwA a0 a1 a2 a3 a4 a5 a6).rh v ++ (abwA a0 a1 a2 a3 a4 a5 a6).rx v)) ((abwA a0 a1 a2 a3 a4 a5 a6).rn v) :=
  AF.ctr try_ok hM (abwok a0 a1 a2 a3 a4 a5 a6) (fn := Try.f17) Try.func17 rfl rfl (Nat.le_of_ble_eq_true rfl) rfl (abwhR a0 a1 a2 a3 a4 a5 a6 hM) hv


abbrev abwP : List AP := [.agg [.int .i64, .int .i64, .int .i64, .int .i64, .int .i64, .int .i64, .int .i64]]
noncomputable def abwF (v : AV) : AF abwN abwR := abwA (v.i.getD 0 0) (v.i.getD 1 0) (v.i.getD 2 0) (v.i.getD 3 0) (v.i.getD 4 0) (v.i.getD 5 0) (v.i.getD 6 0)
theorem abwknown {ρ : Env} (hM : MemoOk Try.prog (ctxOf Try.prog memo0) ρ) : KnownA Try.prog ρ 17 abwP abwF where
  fn := ⟨Try.f17, Try.func17, rfl⟩
  args := fun v => rfl
  plain := fun v r => rfl
  ctr := fun v n r h => abwctr (v.i.getD 0 0) (v.i.getD 1 0) (v.i.getD 2 0) (v.i.getD 3 0) (v.i.getD 4 0) (v.i.getD 5 0) (v.i.getD 6 0) hM h

end Go.Proofs.Ytgnmdknbnkljbaa.Cx

/- acmeref09.Way: whether a way is valid. Made by tools/gen_bcon.py. -/
namespace Go.Proofs.Ytgnmdknbnkljbaa.Cx
set_option linter.unusedVariables false
set_option linter.unusedSimpArgs false
set_option maxRecDepth 100000
set_option maxHeartbeats 4000000
open Go Go.RowKit

theorem abw_val (a13 a14 a15 a16 a17 a18 a19 : Int) : AF.fin (abwA a13 a14 a15 a16 a17 a18 a19) = true ∧ ((WayP a13 a14 a15 a16 a17 a18 a19 → AF.val (abwA a13 a14 a15 a16 a17 a18 a19) = true) ∧ (¬ WayP a13 a14 a15 a16 a17 a18 a19 → AF.val (abwA a13 a14 a15 a16 a17 a18 a19) = false)) :=
  AF.val_sat (Inv := fun _ => False) (E := fun v => (WayP a13 a14 a15 a16 a17 a18 a19 → v = true) ∧ (¬ WayP a13 a14 a15 a16 a17 a18 a19 → v = false)) (fun _ => 0) (fun _ => rfl) (fun a => nomatch a) (by
    show DD.sat _ _ (abwD0 a13 a14 a15 a16 a17 a18 a19)
    unfold abwD0 WayP
    simp only [DD.sat, cmLss, cmLeq, cmGtr, cmGeq, cmEql, cmNeq, cmLssF, cmLeqF, cmGtrF, cmGeqF, cmEqlF, cmNeqF, reduceCtorEq, imp_false, imp_true_iff, and_true, true_and, Classical.not_not, forall_const]
    repeat' (first | (intro _) | (apply And.intro))
    all_goals omega)
end Go.Proofs.Ytgnmdknbnkljbaa.Cx

/- acme/acmelaw09.known returns true, in every world: by the evaluator. Made by tools/cxlaw.py. -/
namespace Go.Proofs.Ytgnmdknbnkljbaa.Cx
set_option maxRecDepth 100000
open Go Go.Proofs Go.RowKit
noncomputable def CxKn09C : Ctx := ctxOf Try.prog memo0
theorem CxKn09_run : isTrue (eval CxKn09C 1000 0 (.call 18 []) .empty) = true := by kernel_rfl
theorem CxKn09_known : KnownB Try.prog 18 := known_of try_ok memo0_ok (by kernel_rfl) CxKn09_run
end Go.Proofs.Ytgnmdknbnkljbaa.Cx

/- acme/acmelaw09.BoltForces as an automaton. Made by tools/cxauto.py. -/
namespace Go.Proofs.Ytgnmdknbnkljbaa.Cx
set_option linter.unusedVariables false
set_option linter.unusedSimpArgs false
set_option maxRecDepth 100000
open Go Go.Proofs Go.RowKit

noncomputable abbrev alfCode : Code := funcCode Try.f3


abbrev alfN := Empty

abbrev alfR := Bool

noncomputable def alfD0 (a0 : Int) (a1 : Int) (a2 : Int) (a3 : Int) (a4 : Int) (a5 : Int) (a6 : Int) (a7 : Int) (a8 : Int) (a9 : Int) (a10 : Int) (a11 : Int) (a12 : Int) (a13 : Int) (a14 : Int) (a15 : Int) (a16 : Int) (a17 : Int) (a18 : Int) (a19 : Int) (a20 : Int) (a21 : Int) : DD (Lf alfN alfR) :=
 .must (AF.fin (abcA a0 a1 a2 a3 a4 a5 a6 a7 a8 a9 a10 a11 a12))
   (.must (AF.fin (aboA a0 a1 a2 a3 a4 a5 a6 a7 a8 a9 a10 a11 a12 a13 a14 a15 a16 a17 a18 a19))
   (.must (AF.fin (abl_A a0 a1 a2 a3 a4 a5 a6 a7 a8 a9 a10 a11 a12 a13 a14 a15 a16 a17 a18 a19 a20 a21))
   (.must (AF.fin (absA a0 a1 a2 a3 a4 a5 a6 a7 a8 a9 a10 a11 a12 a13 a14 a15 a16 a17 a18 a19))
   (.must (AF.fin (abkA a0 a1 a2 a3 a4 a5 a6 a7 a8 a9 a10 a11 a12))
   (.ask (!AF.val (abkA a0 a1 a2 a3 a4 a5 a6 a7 a8 a9 a10 a11 a12))
   (.ask (Cm.run Cm.eql (AF.val (abcA a0 a1 a2 a3 a4 a5 a6 a7 a8 a9 a10 a11 a12)) 0)
   (.must (AF.fin (abkA a0 a1 a2 a3 a4 a5 a6 a7 a8 a9 a10 a11 a12))
   (.ask (AF.val (abkA a0 a1 a2 a3 a4 a5 a6 a7 a8 a9 a10 a11 a12))
   (.ask (Cm.run Cm.eql (AF.val (abcA a0 a1 a2 a3 a4 a5 a6 a7 a8 a9 a10 a11 a12)) 0)
   (.ask (Cm.run Cm.eql (Prod.snd (Prod.snd (AF.val (aboA a0 a1 a2 a3 a4 a5 a6 a7 a8 a9 a10 a11 a12 a13 a14 a15 a16 a17 a18 a19)))) 2)
   (.ask (Cm.run Cm.eql (Prod.snd (Prod.snd (AF.val (abl_A a0 a1 a2 a3 a4 a5 a6 a7 a8 a9 a10 a11 a12 a13 a14 a15 a16 a17 a18 a19 a20 a21)))) (Prod.snd (Prod.snd (AF.val (aboA a0 a1 a2 a3 a4 a5 a6 a7 a8 a9 a10 a11 a12 a13 a14 a15 a16 a17 a18 a19)))))
   (.ask (Cm.run Cm.eql (Prod.snd (Prod.snd (AF.val (absA a0 a1 a2 a3 a4 a5 a6 a7 a8 a9 a10 a11 a12 a13 a14 a15 a16 a17 a18 a19)))) (Prod.snd (Prod.snd (AF.val (aboA a0 a1 a2 a3 a4 a5 a6 a7 a8 a9 a10 a11 a12 a13 a14 a15 a16 a17 a18 a19)))))
   (.ask (Cm.run Cm.eql (Prod.fst (AF.val (aboA a0 a1 a2 a3 a4 a5 a6 a7 a8 a9 a10 a11 a12 a13 a14 a15 a16 a17 a18 a19))) 0)
   (.ask (Cm.run Cm.eql (Prod.fst (Prod.snd (AF.val (aboA a0 a1 a2 a3 a4 a5 a6 a7 a8 a9 a10 a11 a12 a13 a14 a15 a16 a17 a18 a19)))) 0)
   (.ask (Cm.run Cm.eql (Prod.fst (AF.val (abl_A a0 a1 a2 a3 a4 a5 a6 a7 a8 a9 a10 a11 a12 a13 a14 a15 a16 a17 a18 a19 a20 a21))) (Prod.fst (AF.val (aboA a0 a1 a2 a3 a4 a5 a6 a7 a8 a9 a10 a11 a12 a13 a14 a15 a16 a17 a18 a19))))
   (.ask (Cm.run Cm.eql (Prod.fst (Prod.snd (AF.val (abl_A a0 a1 a2 a3 a4 a5 a6 a7 a8 a9 a10 a11 a12 a13 a14 a15 a16 a17 a18 a19 a20 a21)))) (Prod.fst (Prod.snd (AF.val (aboA a0 a1 a2 a3 a4 a5 a6 a7 a8 a9 a10 a11 a12 a13 a14 a15 a16 a17 a18 a19)))))
   (.ask (!Prod.fst (AF.val (absA a0 a1 a2 a3 a4 a5 a6 a7 a8 a9 a10 a11 a12 a13 a14 a15 a16 a17 a18 a19)))
   (.ask (!Prod.fst (Prod.snd (AF.val (absA a0 a1 a2 a3 a4 a5 a6 a7 a8 a9 a10 a11 a12 a13 a14 a15 a16 a17 a18 a19))))
   (.leaf (.done true []))
   (.leaf (.done false [])))
   (.leaf (.done false [])))
   (.leaf (.done false [])))
   (.leaf (.done false [])))
   (.leaf (.done false [])))
   (.leaf (.done false [])))
   (.leaf (.done false [])))
   (.leaf (.done false [])))
   (.leaf (.done false [])))
   (.ask (Cm.run Cm.eql (AF.val (abcA a0 a1 a2 a3 a4 a5 a6 a7 a8 a9 a10 a11 a12)) 2)
   (.ask (Cm.run Cm.eql (Prod.snd (Prod.snd (AF.val (aboA a0 a1 a2 a3 a4 a5 a6 a7 a8 a9 a10 a11 a12 a13 a14 a15 a16 a17 a18 a19)))) 2)
   (.ask (Cm.run Cm.eql (Prod.snd (Prod.snd (AF.val (abl_A a0 a1 a2 a3 a4 a5 a6 a7 a8 a9 a10 a11 a12 a13 a14 a15 a16 a17 a18 a19 a20 a21)))) (Prod.snd (Prod.snd (AF.val (aboA a0 a1 a2 a3 a4 a5 a6 a7 a8 a9 a10 a11 a12 a13 a14 a15 a16 a17 a18 a19)))))
   (.ask (Cm.run Cm.eql (Prod.snd (Prod.snd (AF.val (absA a0 a1 a2 a3 a4 a5 a6 a7 a8 a9 a10 a11 a12 a13 a14 a15 a16 a17 a18 a19)))) (Prod.snd (Prod.snd (AF.val (aboA a0 a1 a2 a3 a4 a5 a6 a7 a8 a9 a10 a11 a12 a13 a14 a15 a16 a17 a18 a19)))))
   (.ask (Cm.run Cm.eql (Prod.fst (AF.val (aboA a0 a1 a2 a3 a4 a5 a6 a7 a8 a9 a10 a11 a12 a13 a14 a15 a16 a17 a18 a19))) 0)
   (.ask (Cm.run Cm.eql (Prod.fst (Prod.snd (AF.val (aboA a0 a1 a2 a3 a4 a5 a6 a7 a8 a9 a10 a11 a12 a13 a14 a15 a16 a17 a18 a19)))) 0)
   (.ask (Cm.run Cm.eql (Prod.fst (AF.val (abl_A a0 a1 a2 a3 a4 a5 a6 a7 a8 a9 a10 a11 a12 a13 a14 a15 a16 a17 a18 a19 a20 a21))) (Prod.fst (AF.val (aboA a0 a1 a2 a3 a4 a5 a6 a7 a8 a9 a10 a11 a12 a13 a14 a15 a16 a17 a18 a19))))
   (.ask (Cm.run Cm.eql (Prod.fst (Prod.snd (AF.val (abl_A a0 a1 a2 a3 a4 a5 a6 a7 a8 a9 a10 a11 a12 a13 a14 a15 a16 a17 a18 a19 a20 a21)))) (Prod.fst (Prod.snd (AF.val (aboA a0 a1 a2 a3 a4 a5 a6 a7 a8 a9 a10 a11 a12 a13 a14 a15 a16 a17 a18 a19)))))
   (.ask (!Prod.fst (AF.val (absA a0 a1 a2 a3 a4 a5 a6 a7 a8 a9 a10 a11 a12 a13 a14 a15 a16 a17 a18 a19)))
   (.ask (!Prod.fst (Prod.snd (AF.val (absA a0 a1 a2 a3 a4 a5 a6 a7 a8 a9 a10 a11 a12 a13 a14 a15 a16 a17 a18 a19))))
   (.leaf (.done true []))
   (.leaf (.done false [])))
   (.leaf (.done false [])))
   (.leaf (.done false [])))
   (.leaf (.done false [])))
   (.leaf (.done false [])))
   (.leaf (.done false [])))
   (.leaf (.done false [])))
   (.leaf (.done false [])))
   (.leaf (.done false [])))
   (.leaf (.done false []))))
   (.leaf (.done false []))))
   (.must (AF.fin (abkA a0 a1 a2 a3 a4 a5 a6 a7 a8 a9 a10 a11 a12))
   (.ask (AF.val (abkA a0 a1 a2 a3 a4 a5 a6 a7 a8 a9 a10 a11 a12))
   (.leaf (.done false []))
   (.ask (Cm.run Cm.eql (AF.val (abcA a0 a1 a2 a3 a4 a5 a6 a7 a8 a9 a10 a11 a12)) 0)
   (.ask (Cm.run Cm.eql (Prod.snd (Prod.snd (AF.val (aboA a0 a1 a2 a3 a4 a5 a6 a7 a8 a9 a10 a11 a12 a13 a14 a15 a16 a17 a18 a19)))) 2)
   (.ask (Cm.run Cm.eql (Prod.snd (Prod.snd (AF.val (abl_A a0 a1 a2 a3 a4 a5 a6 a7 a8 a9 a10 a11 a12 a13 a14 a15 a16 a17 a18 a19 a20 a21)))) (Prod.snd (Prod.snd (AF.val (aboA a0 a1 a2 a3 a4 a5 a6 a7 a8 a9 a10 a11 a12 a13 a14 a15 a16 a17 a18 a19)))))
   (.ask (Cm.run Cm.eql (Prod.snd (Prod.snd (AF.val (absA a0 a1 a2 a3 a4 a5 a6 a7 a8 a9 a10 a11 a12 a13 a14 a15 a16 a17 a18 a19)))) (Prod.snd (Prod.snd (AF.val (aboA a0 a1 a2 a3 a4 a5 a6 a7 a8 a9 a10 a11 a12 a13 a14 a15 a16 a17 a18 a19)))))
   (.ask (Cm.run Cm.eql (Prod.fst (AF.val (aboA a0 a1 a2 a3 a4 a5 a6 a7 a8 a9 a10 a11 a12 a13 a14 a15 a16 a17 a18 a19))) 0)
   (.ask (Cm.run Cm.eql (Prod.fst (Prod.snd (AF.val (aboA a0 a1 a2 a3 a4 a5 a6 a7 a8 a9 a10 a11 a12 a13 a14 a15 a16 a17 a18 a19)))) 0)
   (.ask (Cm.run Cm.eql (Prod.fst (AF.val (abl_A a0 a1 a2 a3 a4 a5 a6 a7 a8 a9 a10 a11 a12 a13 a14 a15 a16 a17 a18 a19 a20 a21))) (Prod.fst (AF.val (aboA a0 a1 a2 a3 a4 a5 a6 a7 a8 a9 a10 a11 a12 a13 a14 a15 a16 a17 a18 a19))))
   (.ask (Cm.run Cm.eql (Prod.fst (Prod.snd (AF.val (abl_A a0 a1 a2 a3 a4 a5 a6 a7 a8 a9 a10 a11 a12 a13 a14 a15 a16 a17 a18 a19 a20 a21)))) (Prod.fst (Prod.snd (AF.val (aboA a0 a1 a2 a3 a4 a5 a6 a7 a8 a9 a10 a11 a12 a13 a14 a15 a16 a17 a18 a19)))))
   (.ask (!Prod.fst (AF.val (absA a0 a1 a2 a3 a4 a5 a6 a7 a8 a9 a10 a11 a12 a13 a14 a15 a16 a17 a18 a19)))
   (.ask (!Prod.fst (Prod.snd (AF.val (absA a0 a1 a2 a3 a4 a5 a6 a7 a8 a9 a10 a11 a12 a13 a14 a15 a16 a17 a18 a19))))
   (.leaf (.done true []))
   (.leaf (.done false [])))
   (.leaf (.done false [])))
   (.leaf (.done false [])))
   (.leaf (.done false [])))
   (.leaf (.done false [])))
   (.leaf (.done false [])))
   (.leaf (.done false [])))
   (.leaf (.done false [])))
   (.leaf (.done false [])))
   (.ask (Cm.run Cm.eql (AF.val (abcA a0 a1 a2 a3 a4 a5 a6 a7 a8 a9 a10 a11 a12)) 2)
   (.ask (Cm.run Cm.eql (Prod.snd (Prod.snd (AF.val (aboA a0 a1 a2 a3 a4 a5 a6 a7 a8 a9 a10 a11 a12 a13 a14 a15 a16 a17 a18 a19)))) 2)
   (.ask (Cm.run Cm.eql (Prod.snd (Prod.snd (AF.val (abl_A a0 a1 a2 a3 a4 a5 a6 a7 a8 a9 a10 a11 a12 a13 a14 a15 a16 a17 a18 a19 a20 a21)))) (Prod.snd (Prod.snd (AF.val (aboA a0 a1 a2 a3 a4 a5 a6 a7 a8 a9 a10 a11 a12 a13 a14 a15 a16 a17 a18 a19)))))
   (.ask (Cm.run Cm.eql (Prod.snd (Prod.snd (AF.val (absA a0 a1 a2 a3 a4 a5 a6 a7 a8 a9 a10 a11 a12 a13 a14 a15 a16 a17 a18 a19)))) (Prod.snd (Prod.snd (AF.val (aboA a0 a1 a2 a3 a4 a5 a6 a7 a8 a9 a10 a11 a12 a13 a14 a15 a16 a17 a18 a19)))))
   (.ask (Cm.run Cm.eql (Prod.fst (AF.val (aboA a0 a1 a2 a3 a4 a5 a6 a7 a8 a9 a10 a11 a12 a13 a14 a15 a16 a17 a18 a19))) 0)
   (.ask (Cm.run Cm.eql (Prod.fst (Prod.snd (AF.val (aboA a0 a1 a2 a3 a4 a5 a6 a7 a8 a9 a10 a11 a12 a13 a14 a15 a16 a17 a18 a19)))) 0)
   (.ask (Cm.run Cm.eql (Prod.fst (AF.val (abl_A a0 a1 a2 a3 a4 a5 a6 a7 a8 a9 a10 a11 a12 a13 a14 a15 a16 a17 a18 a19 a20 a21))) (Prod.fst (AF.val (aboA a0 a1 a2 a3 a4 a5 a6 a7 a8 a9 a10 a11 a12 a13 a14 a15 a16 a17 a18 a19))))
   (.ask (Cm.run Cm.eql (Prod.fst (Prod.snd (AF.val (abl_A a0 a1 a2 a3 a4 a5 a6 a7 a8 a9 a10 a11 a12 a13 a14 a15 a16 a17 a18 a19 a20 a21)))) (Prod.fst (Prod.snd (AF.val (aboA a0 a1 a2 a3 a4 a5 a6 a7 a8 a9 a10 a11 a12 a13 a14 a15 a16 a17 a18 a19)))))
   (.ask (!Prod.fst (AF.val (absA a0 a1 a2 a3 a4 a5 a6 a7 a8 a9 a10 a11 a12 a13 a14 a15 a16 a17 a18 a19)))
   (.ask (!Prod.fst (Prod.snd (AF.val (absA a0 a1 a2 a3 a4 a5 a6 a7 a8 a9 a10 a11 a12 a13 a14 a15 a16 a17 a18 a19))))
   (.leaf (.done true []))
   (.leaf (.done false [])))
   (.leaf (.done false [])))
   (.leaf (.done false [])))
   (.leaf (.done false [])))
   (.leaf (.done false [])))
   (.leaf (.done false [])))
   (.leaf (.done false [])))
   (.leaf (.done false [])))
   (.leaf (.done false [])))
   (.leaf (.done false [])))))))
   (.must (AF.fin (abwA a13 a14 a15 a16 a17 a18 a19))
   (.ask (!AF.val (abwA a13 a14 a15 a16 a17 a18 a19))
   (.ask (Cm.run Cm.eql (AF.val (abcA a0 a1 a2 a3 a4 a5 a6 a7 a8 a9 a10 a11 a12)) 0)
   (.must (AF.fin (abkA a0 a1 a2 a3 a4 a5 a6 a7 a8 a9 a10 a11 a12))
   (.ask (AF.val (abkA a0 a1 a2 a3 a4 a5 a6 a7 a8 a9 a10 a11 a12))
   (.ask (Cm.run Cm.eql (AF.val (abcA a0 a1 a2 a3 a4 a5 a6 a7 a8 a9 a10 a11 a12)) 0)
   (.ask (Cm.run Cm.eql (Prod.snd (Prod.snd (AF.val (aboA a0 a1 a2 a3 a4 a5 a6 a7 a8 a9 a10 a11 a12 a13 a14 a15 a16 a17 a18 a19)))) 2)
   (.ask (Cm.run Cm.eql (Prod.snd (Prod.snd (AF.val (abl_A a0 a1 a2 a3 a4 a5 a6 a7 a8 a9 a10 a11 a12 a13 a14 a15 a16 a17 a18 a19 a20 a21)))) (Prod.snd (Prod.snd (AF.val (aboA a0 a1 a2 a3 a4 a5 a6 a7 a8 a9 a10 a11 a12 a13 a14 a15 a16 a17 a18 a19)))))
   (.ask (Cm.run Cm.eql (Prod.snd (Prod.snd (AF.val (absA a0 a1 a2 a3 a4 a5 a6 a7 a8 a9 a10 a11 a12 a13 a14 a15 a16 a17 a18 a19)))) (Prod.snd (Prod.snd (AF.val (aboA a0 a1 a2 a3 a4 a5 a6 a7 a8 a9 a10 a11 a12 a13 a14 a15 a16 a17 a18 a19)))))
   (.ask (Cm.run Cm.eql (Prod.fst (AF.val (aboA a0 a1 a2 a3 a4 a5 a6 a7 a8 a9 a10 a11 a12 a13 a14 a15 a16 a17 a18 a19))) 0)
   (.ask (Cm.run Cm.eql (Prod.fst (Prod.snd (AF.val (aboA a0 a1 a2 a3 a4 a5 a6 a7 a8 a9 a10 a11 a12 a13 a14 a15 a16 a17 a18 a19)))) 0)
   (.ask (Cm.run Cm.eql (Prod.fst (AF.val (abl_A a0 a1 a2 a3 a4 a5 a6 a7 a8 a9 a10 a11 a12 a13 a14 a15 a16 a17 a18 a19 a20 a21))) (Prod.fst (AF.val (aboA a0 a1 a2 a3 a4 a5 a6 a7 a8 a9 a10 a11 a12 a13 a14 a15 a16 a17 a18 a19))))
   (.ask (Cm.run Cm.eql (Prod.fst (Prod.snd (AF.val (abl_A a0 a1 a2 a3 a4 a5 a6 a7 a8 a9 a10 a11 a12 a13 a14 a15 a16 a17 a18 a19 a20 a21)))) (Prod.fst (Prod.snd (AF.val (aboA a0 a1 a2 a3 a4 a5 a6 a7 a8 a9 a10 a11 a12 a13 a14 a15 a16 a17 a18 a19)))))
   (.ask (!Prod.fst (AF.val (absA a0 a1 a2 a3 a4 a5 a6 a7 a8 a9 a10 a11 a12 a13 a14 a15 a16 a17 a18 a19)))
   (.ask (!Prod.fst (Prod.snd (AF.val (absA a0 a1 a2 a3 a4 a5 a6 a7 a8 a9 a10 a11 a12 a13 a14 a15 a16 a17 a18 a19))))
   (.leaf (.done true []))
   (.leaf (.done false [])))
   (.leaf (.done false [])))
   (.leaf (.done false [])))
   (.leaf (.done false [])))
   (.leaf (.done false [])))
   (.leaf (.done false [])))
   (.leaf (.done false [])))
   (.leaf (.done false [])))
   (.leaf (.done false [])))
   (.ask (Cm.run Cm.eql (AF.val (abcA a0 a1 a2 a3 a4 a5 a6 a7 a8 a9 a10 a11 a12)) 2)
   (.ask (Cm.run Cm.eql (Prod.snd (Prod.snd (AF.val (aboA a0 a1 a2 a3 a4 a5 a6 a7 a8 a9 a10 a11 a12 a13 a14 a15 a16 a17 a18 a19)))) 2)
   (.ask (Cm.run Cm.eql (Prod.snd (Prod.snd (AF.val (abl_A a0 a1 a2 a3 a4 a5 a6 a7 a8 a9 a10 a11 a12 a13 a14 a15 a16 a17 a18 a19 a20 a21)))) (Prod.snd (Prod.snd (AF.val (aboA a0 a1 a2 a3 a4 a5 a6 a7 a8 a9 a10 a11 a12 a13 a14 a15 a16 a17 a18 a19)))))
   (.ask (Cm.run Cm.eql (Prod.snd (Prod.snd (AF.val (absA a0 a1 a2 a3 a4 a5 a6 a7 a8 a9 a10 a11 a12 a13 a14 a15 a16 a17 a18 a19)))) (Prod.snd (Prod.snd (AF.val (aboA a0 a1 a2 a3 a4 a5 a6 a7 a8 a9 a10 a11 a12 a13 a14 a15 a16 a17 a18 a19)))))
   (.ask (Cm.run Cm.eql (Prod.fst (AF.val (aboA a0 a1 a2 a3 a4 a5 a6 a7 a8 a9 a10 a11 a12 a13 a14 a15 a16 a17 a18 a19))) 0)
   (.ask (Cm.run Cm.eql (Prod.fst (Prod.snd (AF.val (aboA a0 a1 a2 a3 a4 a5 a6 a7 a8 a9 a10 a11 a12 a13 a14 a15 a16 a17 a18 a19)))) 0)
   (.ask (Cm.run Cm.eql (Prod.fst (AF.val (abl_A a0 a1 a2 a3 a4 a5 a6 a7 a8 a9 a10 a11 a12 a13 a14 a15 a16 a17 a18 a19 a20 a21))) (Prod.fst (AF.val (aboA a0 a1 a2 a3 a4 a5 a6 a7 a8 a9 a10 a11 a12 a13 a14 a15 a16 a17 a18 a19))))
   (.ask (Cm.run Cm.eql (Prod.fst (Prod.snd (AF.val (abl_A a0 a1 a2 a3 a4 a5 a6 a7 a8 a9 a10 a11 a12 a13 a14 a15 a16 a17 a18 a19 a20 a21)))) (Prod.fst (Prod.snd (AF.val (aboA a0 a1 a2 a3 a4 a5 a6 a7 a8 a9 a10 a11 a12 a13 a14 a15 a16 a17 a18 a19)))))
   (.ask (!Prod.fst (AF.val (absA a0 a1 a2 a3 a4 a5 a6 a7 a8 a9 a10 a11 a12 a13 a14 a15 a16 a17 a18 a19)))
   (.ask (!Prod.fst (Prod.snd (AF.val (absA a0 a1 a2 a3 a4 a5 a6 a7 a8 a9 a10 a11 a12 a13 a14 a15 a16 a17 a18 a19))))
   (.leaf (.done true []))
   (.leaf (.done false [])))
   (.leaf (.done false [])))
   (.leaf (.done false [])))
   (.leaf (.done false [])))
   (.leaf (.done false [])))
   (.leaf (.done false [])))
   (.leaf (.done false [])))
   (.leaf (.done false [])))
   (.leaf (.done false [])))
   (.leaf (.done false []))))
   (.leaf (.done false []))))
   (.must (AF.fin (abkA a0 a1 a2 a3 a4 a5 a6 a7 a8 a9 a10 a11 a12))
   (.ask (AF.val (abkA a0 a1 a2 a3 a4 a5 a6 a7 a8 a9 a10 a11 a12))
   (.leaf (.done false []))
   (.ask (Cm.run Cm.eql (AF.val (abcA a0 a1 a2 a3 a4 a5 a6 a7 a8 a9 a10 a11 a12)) 0)
   (.ask (Cm.run Cm.eql (Prod.snd (Prod.snd (AF.val (aboA a0 a1 a2 a3 a4 a5 a6 a7 a8 a9 a10 a11 a12 a13 a14 a15 a16 a17 a18 a19)))) 2)
   (.ask (Cm.run Cm.eql (Prod.snd (Prod.snd (AF.val (abl_A a0 a1 a2 a3 a4 a5 a6 a7 a8 a9 a10 a11 a12 a13 a14 a15 a16 a17 a18 a19 a20 a21)))) (Prod.snd (Prod.snd (AF.val (aboA a0 a1 a2 a3 a4 a5 a6 a7 a8 a9 a10 a11 a12 a13 a14 a15 a16 a17 a18 a19)))))
   (.ask (Cm.run Cm.eql (Prod.snd (Prod.snd (AF.val (absA a0 a1 a2 a3 a4 a5 a6 a7 a8 a9 a10 a11 a12 a13 a14 a15 a16 a17 a18 a19)))) (Prod.snd (Prod.snd (AF.val (aboA a0 a1 a2 a3 a4 a5 a6 a7 a8 a9 a10 a11 a12 a13 a14 a15 a16 a17 a18 a19)))))
   (.ask (Cm.run Cm.eql (Prod.fst (AF.val (aboA a0 a1 a2 a3 a4 a5 a6 a7 a8 a9 a10 a11 a12 a13 a14 a15 a16 a17 a18 a19))) 0)
   (.ask (Cm.run Cm.eql (Prod.fst (Prod.snd (AF.val (aboA a0 a1 a2 a3 a4 a5 a6 a7 a8 a9 a10 a11 a12 a13 a14 a15 a16 a17 a18 a19)))) 0)
   (.ask (Cm.run Cm.eql (Prod.fst (AF.val (abl_A a0 a1 a2 a3 a4 a5 a6 a7 a8 a9 a10 a11 a12 a13 a14 a15 a16 a17 a18 a19 a20 a21))) (Prod.fst (AF.val (aboA a0 a1 a2 a3 a4 a5 a6 a7 a8 a9 a10 a11 a12 a13 a14 a15 a16 a17 a18 a19))))
   (.ask (Cm.run Cm.eql (Prod.fst (Prod.snd (AF.val (abl_A a0 a1 a2 a3 a4 a5 a6 a7 a8 a9 a10 a11 a12 a13 a14 a15 a16 a17 a18 a19 a20 a21)))) (Prod.fst (Prod.snd (AF.val (aboA a0 a1 a2 a3 a4 a5 a6 a7 a8 a9 a10 a11 a12 a13 a14 a15 a16 a17 a18 a19)))))
   (.ask (!Prod.fst (AF.val (absA a0 a1 a2 a3 a4 a5 a6 a7 a8 a9 a10 a11 a12 a13 a14 a15 a16 a17 a18 a19)))
   (.ask (!Prod.fst (Prod.snd (AF.val (absA a0 a1 a2 a3 a4 a5 a6 a7 a8 a9 a10 a11 a12 a13 a14 a15 a16 a17 a18 a19))))
   (.leaf (.done true []))
   (.leaf (.done false [])))
   (.leaf (.done false [])))
   (.leaf (.done false [])))
   (.leaf (.done false [])))
   (.leaf (.done false [])))
   (.leaf (.done false [])))
   (.leaf (.done false [])))
   (.leaf (.done false [])))
   (.leaf (.done false [])))
   (.ask (Cm.run Cm.eql (AF.val (abcA a0 a1 a2 a3 a4 a5 a6 a7 a8 a9 a10 a11 a12)) 2)
   (.ask (Cm.run Cm.eql (Prod.snd (Prod.snd (AF.val (aboA a0 a1 a2 a3 a4 a5 a6 a7 a8 a9 a10 a11 a12 a13 a14 a15 a16 a17 a18 a19)))) 2)
   (.ask (Cm.run Cm.eql (Prod.snd (Prod.snd (AF.val (abl_A a0 a1 a2 a3 a4 a5 a6 a7 a8 a9 a10 a11 a12 a13 a14 a15 a16 a17 a18 a19 a20 a21)))) (Prod.snd (Prod.snd (AF.val (aboA a0 a1 a2 a3 a4 a5 a6 a7 a8 a9 a10 a11 a12 a13 a14 a15 a16 a17 a18 a19)))))
   (.ask (Cm.run Cm.eql (Prod.snd (Prod.snd (AF.val (absA a0 a1 a2 a3 a4 a5 a6 a7 a8 a9 a10 a11 a12 a13 a14 a15 a16 a17 a18 a19)))) (Prod.snd (Prod.snd (AF.val (aboA a0 a1 a2 a3 a4 a5 a6 a7 a8 a9 a10 a11 a12 a13 a14 a15 a16 a17 a18 a19)))))
   (.ask (Cm.run Cm.eql (Prod.fst (AF.val (aboA a0 a1 a2 a3 a4 a5 a6 a7 a8 a9 a10 a11 a12 a13 a14 a15 a16 a17 a18 a19))) 0)
   (.ask (Cm.run Cm.eql (Prod.fst (Prod.snd (AF.val (aboA a0 a1 a2 a3 a4 a5 a6 a7 a8 a9 a10 a11 a12 a13 a14 a15 a16 a17 a18 a19)))) 0)
   (.ask (Cm.run Cm.eql (Prod.fst (AF.val (abl_A a0 a1 a2 a3 a4 a5 a6 a7 a8 a9 a10 a11 a12 a13 a14 a15 a16 a17 a18 a19 a20 a21))) (Prod.fst (AF.val (aboA a0 a1 a2 a3 a4 a5 a6 a7 a8 a9 a10 a11 a12 a13 a14 a15 a16 a17 a18 a19))))
   (.ask (Cm.run Cm.eql (Prod.fst (Prod.snd (AF.val (abl_A a0 a1 a2 a3 a4 a5 a6 a7 a8 a9 a10 a11 a12 a13 a14 a15 a16 a17 a18 a19 a20 a21)))) (Prod.fst (Prod.snd (AF.val (aboA a0 a1 a2 a3 a4 a5 a6 a7 a8 a9 a10 a11 a12 a13 a14 a15 a16 a17 a18 a19)))))
   (.ask (!Prod.fst (AF.val (absA a0 a1 a2 a3 a4 a5 a6 a7 a8 a9 a10 a11 a12 a13 a14 a15 a16 a17 a18 a19)))
   (.ask (!Prod.fst (Prod.snd (AF.val (absA a0 a1 a2 a3 a4 a5 a6 a7 a8 a9 a10 a11 a12 a13 a14 a15 a16 a17 a18 a19))))
   (.leaf (.done true []))
   (.leaf (.done false [])))
   (.leaf (.done false [])))
   (.leaf (.done false [])))
   (.leaf (.done false [])))
   (.leaf (.done false [])))
   (.leaf (.done false [])))
   (.leaf (.done false [])))
   (.leaf (.done false [])))
   (.leaf (.done false [])))
   (.leaf (.done false [])))))))
   (.must (AF.fin (abgA a0 a1 a2 a3 a4 a5 a6 a7 a8 a9 a10 a11 a12 a13 a14 a15 a16 a17 a18 a19))
   (.ask (Cm.run Cm.neq (AF.val (abcA a0 a1 a2 a3 a4 a5 a6 a7 a8 a9 a10 a11 a12)) 0)
   (.leaf (.done false []))
   (.ask (Cm.run Cm.neq (Prod.snd (Prod.snd (AF.val (aboA a0 a1 a2 a3 a4 a5 a6 a7 a8 a9 a10 a11 a12 a13 a14 a15 a16 a17 a18 a19)))) 0)
   (.leaf (.done false []))
   (.ask (Cm.run Cm.eql (Prod.fst (AF.val (aboA a0 a1 a2 a3 a4 a5 a6 a7 a8 a9 a10 a11 a12 a13 a14 a15 a16 a17 a18 a19))) (Prod.fst (AF.val (abgA a0 a1 a2 a3 a4 a5 a6 a7 a8 a9 a10 a11 a12 a13 a14 a15 a16 a17 a18 a19))))
   (.ask (Cm.run Cm.eql (Prod.fst (Prod.snd (AF.val (aboA a0 a1 a2 a3 a4 a5 a6 a7 a8 a9 a10 a11 a12 a13 a14 a15 a16 a17 a18 a19)))) (Prod.fst (Prod.snd (AF.val (abgA a0 a1 a2 a3 a4 a5 a6 a7 a8 a9 a10 a11 a12 a13 a14 a15 a16 a17 a18 a19)))))
   (.ask (Cm.run Cm.neq (Prod.snd (Prod.snd (AF.val (absA a0 a1 a2 a3 a4 a5 a6 a7 a8 a9 a10 a11 a12 a13 a14 a15 a16 a17 a18 a19)))) 0)
   (.leaf (.done false []))
   (.ask (Prod.fst (AF.val (absA a0 a1 a2 a3 a4 a5 a6 a7 a8 a9 a10 a11 a12 a13 a14 a15 a16 a17 a18 a19)))
   (.ask (Prod.fst (Prod.snd (Prod.snd (AF.val (abgA a0 a1 a2 a3 a4 a5 a6 a7 a8 a9 a10 a11 a12 a13 a14 a15 a16 a17 a18 a19)))))
   (.ask (Prod.fst (Prod.snd (AF.val (absA a0 a1 a2 a3 a4 a5 a6 a7 a8 a9 a10 a11 a12 a13 a14 a15 a16 a17 a18 a19))))
   (.ask (Prod.snd (Prod.snd (Prod.snd (AF.val (abgA a0 a1 a2 a3 a4 a5 a6 a7 a8 a9 a10 a11 a12 a13 a14 a15 a16 a17 a18 a19)))))
   (.ask (Cm.run Cm.geq a20 0)
   (.ask (Cm.run Cm.leq a20 a21)
   (.ask (Cm.run Cm.leq a21 100000000)
   (.ask (Cm.run Cm.eql (Prod.snd (Prod.snd (AF.val (abl_A a0 a1 a2 a3 a4 a5 a6 a7 a8 a9 a10 a11 a12 a13 a14 a15 a16 a17 a18 a19 a20 a21)))) 0)
   (.ask (Cm.run Cm.eql (Prod.fst (AF.val (abl_A a0 a1 a2 a3 a4 a5 a6 a7 a8 a9 a10 a11 a12 a13 a14 a15 a16 a17 a18 a19 a20 a21))) (Ar.run Ar.mx IntKind.i64 0 (Ar.run Ar.sub IntKind.i64 (Prod.fst (AF.val (abgA a0 a1 a2 a3 a4 a5 a6 a7 a8 a9 a10 a11 a12 a13 a14 a15 a16 a17 a18 a19))) a21)))
   (.ask (Cm.run Cm.eql (Prod.fst (Prod.snd (AF.val (abl_A a0 a1 a2 a3 a4 a5 a6 a7 a8 a9 a10 a11 a12 a13 a14 a15 a16 a17 a18 a19 a20 a21)))) (Ar.run Ar.mx IntKind.i64 0 (Ar.run Ar.sub IntKind.i64 (Prod.fst (Prod.snd (AF.val (abgA a0 a1 a2 a3 a4 a5 a6 a7 a8 a9 a10 a11 a12 a13 a14 a15 a16 a17 a18 a19)))) a20)))
   (.leaf (.done true []))
   (.leaf (.done false [])))
   (.leaf (.done false [])))
   (.leaf (.done false [])))
   (.ask (Cm.run Cm.eql (Prod.snd (Prod.snd (AF.val (abl_A a0 a1 a2 a3 a4 a5 a6 a7 a8 a9 a10 a11 a12 a13 a14 a15 a16 a17 a18 a19 a20 a21)))) 3)
   (.ask (Cm.run Cm.eql (Prod.fst (AF.val (abl_A a0 a1 a2 a3 a4 a5 a6 a7 a8 a9 a10 a11 a12 a13 a14 a15 a16 a17 a18 a19 a20 a21))) 0)
   (.ask (Cm.run Cm.eql (Prod.fst (Prod.snd (AF.val (abl_A a0 a1 a2 a3 a4 a5 a6 a7 a8 a9 a10 a11 a12 a13 a14 a15 a16 a17 a18 a19 a20 a21)))) 0)
   (.leaf (.done true []))
   (.leaf (.done false [])))
   (.leaf (.done false [])))
   (.leaf (.done false []))))
   (.ask (Cm.run Cm.eql (Prod.snd (Prod.snd (AF.val (abl_A a0 a1 a2 a3 a4 a5 a6 a7 a8 a9 a10 a11 a12 a13 a14 a15 a16 a17 a18 a19 a20 a21)))) 3)
   (.ask (Cm.run Cm.eql (Prod.fst (AF.val (abl_A a0 a1 a2 a3 a4 a5 a6 a7 a8 a9 a10 a11 a12 a13 a14 a15 a16 a17 a18 a19 a20 a21))) 0)
   (.ask (Cm.run Cm.eql (Prod.fst (Prod.snd (AF.val (abl_A a0 a1 a2 a3 a4 a5 a6 a7 a8 a9 a10 a11 a12 a13 a14 a15 a16 a17 a18 a19 a20 a21)))) 0)
   (.leaf (.done true []))
   (.leaf (.done false [])))
   (.leaf (.done false [])))
   (.leaf (.done false []))))
   (.ask (Cm.run Cm.eql (Prod.snd (Prod.snd (AF.val (abl_A a0 a1 a2 a3 a4 a5 a6 a7 a8 a9 a10 a11 a12 a13 a14 a15 a16 a17 a18 a19 a20 a21)))) 3)
   (.ask (Cm.run Cm.eql (Prod.fst (AF.val (abl_A a0 a1 a2 a3 a4 a5 a6 a7 a8 a9 a10 a11 a12 a13 a14 a15 a16 a17 a18 a19 a20 a21))) 0)
   (.ask (Cm.run Cm.eql (Prod.fst (Prod.snd (AF.val (abl_A a0 a1 a2 a3 a4 a5 a6 a7 a8 a9 a10 a11 a12 a13 a14 a15 a16 a17 a18 a19 a20 a21)))) 0)
   (.leaf (.done true []))
   (.leaf (.done false [])))
   (.leaf (.done false [])))
   (.leaf (.done false []))))
   (.leaf (.done false [])))
   (.ask (Prod.snd (Prod.snd (Prod.snd (AF.val (abgA a0 a1 a2 a3 a4 a5 a6 a7 a8 a9 a10 a11 a12 a13 a14 a15 a16 a17 a18 a19)))))
   (.leaf (.done false []))
   (.ask (Cm.run Cm.geq a20 0)
   (.ask (Cm.run Cm.leq a20 a21)
   (.ask (Cm.run Cm.leq a21 100000000)
   (.ask (Cm.run Cm.eql (Prod.snd (Prod.snd (AF.val (abl_A a0 a1 a2 a3 a4 a5 a6 a7 a8 a9 a10 a11 a12 a13 a14 a15 a16 a17 a18 a19 a20 a21)))) 0)
   (.ask (Cm.run Cm.eql (Prod.fst (AF.val (abl_A a0 a1 a2 a3 a4 a5 a6 a7 a8 a9 a10 a11 a12 a13 a14 a15 a16 a17 a18 a19 a20 a21))) (Ar.run Ar.mx IntKind.i64 0 (Ar.run Ar.sub IntKind.i64 (Prod.fst (AF.val (abgA a0 a1 a2 a3 a4 a5 a6 a7 a8 a9 a10 a11 a12 a13 a14 a15 a16 a17 a18 a19))) a21)))
   (.ask (Cm.run Cm.eql (Prod.fst (Prod.snd (AF.val (abl_A a0 a1 a2 a3 a4 a5 a6 a7 a8 a9 a10 a11 a12 a13 a14 a15 a16 a17 a18 a19 a20 a21)))) (Ar.run Ar.mx IntKind.i64 0 (Ar.run Ar.sub IntKind.i64 (Prod.fst (Prod.snd (AF.val (abgA a0 a1 a2 a3 a4 a5 a6 a7 a8 a9 a10 a11 a12 a13 a14 a15 a16 a17 a18 a19)))) a20)))
   (.leaf (.done true []))
   (.leaf (.done false [])))
   (.leaf (.done false [])))
   (.leaf (.done false [])))
   (.ask (Cm.run Cm.eql (Prod.snd (Prod.snd (AF.val (abl_A a0 a1 a2 a3 a4 a5 a6 a7 a8 a9 a10 a11 a12 a13 a14 a15 a16 a17 a18 a19 a20 a21)))) 3)
   (.ask (Cm.run Cm.eql (Prod.fst (AF.val (abl_A a0 a1 a2 a3 a4 a5 a6 a7 a8 a9 a10 a11 a12 a13 a14 a15 a16 a17 a18 a19 a20 a21))) 0)
   (.ask (Cm.run Cm.eql (Prod.fst (Prod.snd (AF.val (abl_A a0 a1 a2 a3 a4 a5 a6 a7 a8 a9 a10 a11 a12 a13 a14 a15 a16 a17 a18 a19 a20 a21)))) 0)
   (.leaf (.done true []))
   (.leaf (.done false [])))
   (.leaf (.done false [])))
   (.leaf (.done false []))))
   (.ask (Cm.run Cm.eql (Prod.snd (Prod.snd (AF.val (abl_A a0 a1 a2 a3 a4 a5 a6 a7 a8 a9 a10 a11 a12 a13 a14 a15 a16 a17 a18 a19 a20 a21)))) 3)
   (.ask (Cm.run Cm.eql (Prod.fst (AF.val (abl_A a0 a1 a2 a3 a4 a5 a6 a7 a8 a9 a10 a11 a12 a13 a14 a15 a16 a17 a18 a19 a20 a21))) 0)
   (.ask (Cm.run Cm.eql (Prod.fst (Prod.snd (AF.val (abl_A a0 a1 a2 a3 a4 a5 a6 a7 a8 a9 a10 a11 a12 a13 a14 a15 a16 a17 a18 a19 a20 a21)))) 0)
   (.leaf (.done true []))
   (.leaf (.done false [])))
   (.leaf (.done false [])))
   (.leaf (.done false []))))
   (.ask (Cm.run Cm.eql (Prod.snd (Prod.snd (AF.val (abl_A a0 a1 a2 a3 a4 a5 a6 a7 a8 a9 a10 a11 a12 a13 a14 a15 a16 a17 a18 a19 a20 a21)))) 3)
   (.ask (Cm.run Cm.eql (Prod.fst (AF.val (abl_A a0 a1 a2 a3 a4 a5 a6 a7 a8 a9 a10 a11 a12 a13 a14 a15 a16 a17 a18 a19 a20 a21))) 0)
   (.ask (Cm.run Cm.eql (Prod.fst (Prod.snd (AF.val (abl_A a0 a1 a2 a3 a4 a5 a6 a7 a8 a9 a10 a11 a12 a13 a14 a15 a16 a17 a18 a19 a20 a21)))) 0)
   (.leaf (.done true []))
   (.leaf (.done false [])))
   (.leaf (.done false [])))
   (.leaf (.done false []))))))
   (.leaf (.done false [])))
   (.ask (Prod.fst (Prod.snd (Prod.snd (AF.val (abgA a0 a1 a2 a3 a4 a5 a6 a7 a8 a9 a10 a11 a12 a13 a14 a15 a16 a17 a18 a19)))))
   (.leaf (.done false []))
   (.ask (Prod.fst (Prod.snd (AF.val (absA a0 a1 a2 a3 a4 a5 a6 a7 a8 a9 a10 a11 a12 a13 a14 a15 a16 a17 a18 a19))))
   (.ask (Prod.snd (Prod.snd (Prod.snd (AF.val (abgA a0 a1 a2 a3 a4 a5 a6 a7 a8 a9 a10 a11 a12 a13 a14 a15 a16 a17 a18 a19)))))
   (.ask (Cm.run Cm.geq a20 0)
   (.ask (Cm.run Cm.leq a20 a21)
   (.ask (Cm.run Cm.leq a21 100000000)
   (.ask (Cm.run Cm.eql (Prod.snd (Prod.snd (AF.val (abl_A a0 a1 a2 a3 a4 a5 a6 a7 a8 a9 a10 a11 a12 a13 a14 a15 a16 a17 a18 a19 a20 a21)))) 0)
   (.ask (Cm.run Cm.eql (Prod.fst (AF.val (abl_A a0 a1 a2 a3 a4 a5 a6 a7 a8 a9 a10 a11 a12 a13 a14 a15 a16 a17 a18 a19 a20 a21))) (Ar.run Ar.mx IntKind.i64 0 (Ar.run Ar.sub IntKind.i64 (Prod.fst (AF.val (abgA a0 a1 a2 a3 a4 a5 a6 a7 a8 a9 a10 a11 a12 a13 a14 a15 a16 a17 a18 a19))) a21)))
   (.ask (Cm.run Cm.eql (Prod.fst (Prod.snd (AF.val (abl_A a0 a1 a2 a3 a4 a5 a6 a7 a8 a9 a10 a11 a12 a13 a14 a15 a16 a17 a18 a19 a20 a21)))) (Ar.run Ar.mx IntKind.i64 0 (Ar.run Ar.sub IntKind.i64 (Prod.fst (Prod.snd (AF.val (abgA a0 a1 a2 a3 a4 a5 a6 a7 a8 a9 a10 a11 a12 a13 a14 a15 a16 a17 a18 a19)))) a20)))
   (.leaf (.done true []))
   (.leaf (.done false [])))
   (.leaf (.done false [])))
   (.leaf (.done false [])))
   (.ask (Cm.run Cm.eql (Prod.snd (Prod.snd (AF.val (abl_A a0 a1 a2 a3 a4 a5 a6 a7 a8 a9 a10 a11 a12 a13 a14 a15 a16 a17 a18 a19 a20 a21)))) 3)
   (.ask (Cm.run Cm.eql (Prod.fst (AF.val (abl_A a0 a1 a2 a3 a4 a5 a6 a7 a8 a9 a10 a11 a12 a13 a14 a15 a16 a17 a18 a19 a20 a21))) 0)
   (.ask (Cm.run Cm.eql (Prod.fst (Prod.snd (AF.val (abl_A a0 a1 a2 a3 a4 a5 a6 a7 a8 a9 a10 a11 a12 a13 a14 a15 a16 a17 a18 a19 a20 a21)))) 0)
   (.leaf (.done true []))
   (.leaf (.done false [])))
   (.leaf (.done false [])))
   (.leaf (.done false []))))
   (.ask (Cm.run Cm.eql (Prod.snd (Prod.snd (AF.val (abl_A a0 a1 a2 a3 a4 a5 a6 a7 a8 a9 a10 a11 a12 a13 a14 a15 a16 a17 a18 a19 a20 a21)))) 3)
   (.ask (Cm.run Cm.eql (Prod.fst (AF.val (abl_A a0 a1 a2 a3 a4 a5 a6 a7 a8 a9 a10 a11 a12 a13 a14 a15 a16 a17 a18 a19 a20 a21))) 0)
   (.ask (Cm.run Cm.eql (Prod.fst (Prod.snd (AF.val (abl_A a0 a1 a2 a3 a4 a5 a6 a7 a8 a9 a10 a11 a12 a13 a14 a15 a16 a17 a18 a19 a20 a21)))) 0)
   (.leaf (.done true []))
   (.leaf (.done false [])))
   (.leaf (.done false [])))
   (.leaf (.done false []))))
   (.ask (Cm.run Cm.eql (Prod.snd (Prod.snd (AF.val (abl_A a0 a1 a2 a3 a4 a5 a6 a7 a8 a9 a10 a11 a12 a13 a14 a15 a16 a17 a18 a19 a20 a21)))) 3)
   (.ask (Cm.run Cm.eql (Prod.fst (AF.val (abl_A a0 a1 a2 a3 a4 a5 a6 a7 a8 a9 a10 a11 a12 a13 a14 a15 a16 a17 a18 a19 a20 a21))) 0)
   (.ask (Cm.run Cm.eql (Prod.fst (Prod.snd (AF.val (abl_A a0 a1 a2 a3 a4 a5 a6 a7 a8 a9 a10 a11 a12 a13 a14 a15 a16 a17 a18 a19 a20 a21)))) 0)
   (.leaf (.done true []))
   (.leaf (.done false [])))
   (.leaf (.done false [])))
   (.leaf (.done false []))))
   (.leaf (.done false [])))
   (.ask (Prod.snd (Prod.snd (Prod.snd (AF.val (abgA a0 a1 a2 a3 a4 a5 a6 a7 a8 a9 a10 a11 a12 a13 a14 a15 a16 a17 a18 a19)))))
   (.leaf (.done false []))
   (.ask (Cm.run Cm.geq a20 0)
   (.ask (Cm.run Cm.leq a20 a21)
   (.ask (Cm.run Cm.leq a21 100000000)
   (.ask (Cm.run Cm.eql (Prod.snd (Prod.snd (AF.val (abl_A a0 a1 a2 a3 a4 a5 a6 a7 a8 a9 a10 a11 a12 a13 a14 a15 a16 a17 a18 a19 a20 a21)))) 0)
   (.ask (Cm.run Cm.eql (Prod.fst (AF.val (abl_A a0 a1 a2 a3 a4 a5 a6 a7 a8 a9 a10 a11 a12 a13 a14 a15 a16 a17 a18 a19 a20 a21))) (Ar.run Ar.mx IntKind.i64 0 (Ar.run Ar.sub IntKind.i64 (Prod.fst (AF.val (abgA a0 a1 a2 a3 a4 a5 a6 a7 a8 a9 a10 a11 a12 a13 a14 a15 a16 a17 a18 a19))) a21)))
   (.ask (Cm.run Cm.eql (Prod.fst (Prod.snd (AF.val (abl_A a0 a1 a2 a3 a4 a5 a6 a7 a8 a9 a10 a11 a12 a13 a14 a15 a16 a17 a18 a19 a20 a21)))) (Ar.run Ar.mx IntKind.i64 0 (Ar.run Ar.sub IntKind.i64 (Prod.fst (Prod.snd (AF.val (abgA a0 a1 a2 a3 a4 a5 a6 a7 a8 a9 a10 a11 a12 a13 a14 a15 a16 a17 a18 a19)))) a20)))
   (.leaf (.done true []))
   (.leaf (.done false [])))
   (.leaf (.done false [])))
   (.leaf (.done false [])))
   (.ask (Cm.run Cm.eql (Prod.snd (Prod.snd (AF.val (abl_A a0 a1 a2 a3 a4 a5 a6 a7 a8 a9 a10 a11 a12 a13 a14 a15 a16 a17 a18 a19 a20 a21)))) 3)
   (.ask (Cm.run Cm.eql (Prod.fst (AF.val (abl_A a0 a1 a2 a3 a4 a5 a6 a7 a8 a9 a10 a11 a12 a13 a14 a15 a16 a17 a18 a19 a20 a21))) 0)
   (.ask (Cm.run Cm.eql (Prod.fst (Prod.snd (AF.val (abl_A a0 a1 a2 a3 a4 a5 a6 a7 a8 a9 a10 a11 a12 a13 a14 a15 a16 a17 a18 a19 a20 a21)))) 0)
   (.leaf (.done true []))
   (.leaf (.done false [])))
   (.leaf (.done false [])))
   (.leaf (.done false []))))
   (.ask (Cm.run Cm.eql (Prod.snd (Prod.snd (AF.val (abl_A a0 a1 a2 a3 a4 a5 a6 a7 a8 a9 a10 a11 a12 a13 a14 a15 a16 a17 a18 a19 a20 a21)))) 3)
   (.ask (Cm.run Cm.eql (Prod.fst (AF.val (abl_A a0 a1 a2 a3 a4 a5 a6 a7 a8 a9 a10 a11 a12 a13 a14 a15 a16 a17 a18 a19 a20 a21))) 0)
   (.ask (Cm.run Cm.eql (Prod.fst (Prod.snd (AF.val (abl_A a0 a1 a2 a3 a4 a5 a6 a7 a8 a9 a10 a11 a12 a13 a14 a15 a16 a17 a18 a19 a20 a21)))) 0)
   (.leaf (.done true []))
   (.leaf (.done false [])))
   (.leaf (.done false [])))
   (.leaf (.done false []))))
   (.ask (Cm.run Cm.eql (Prod.snd (Prod.snd (AF.val (abl_A a0 a1 a2 a3 a4 a5 a6 a7 a8 a9 a10 a11 a12 a13 a14 a15 a16 a17 a18 a19 a20 a21)))) 3)
   (.ask (Cm.run Cm.eql (Prod.fst (AF.val (abl_A a0 a1 a2 a3 a4 a5 a6 a7 a8 a9 a10 a11 a12 a13 a14 a15 a16 a17 a18 a19 a20 a21))) 0)
   (.ask (Cm.run Cm.eql (Prod.fst (Prod.snd (AF.val (abl_A a0 a1 a2 a3 a4 a5 a6 a7 a8 a9 a10 a11 a12 a13 a14 a15 a16 a17 a18 a19 a20 a21)))) 0)
   (.leaf (.done true []))
   (.leaf (.done false [])))
   (.leaf (.done false [])))
   (.leaf (.done false [])))))))))
   (.leaf (.done false [])))
   (.leaf (.done false [])))))))))))))

noncomputable def alfD (a0 : Int) (a1 : Int) (a2 : Int) (a3 : Int) (a4 : Int) (a5 : Int) (a6 : Int) (a7 : Int) (a8 : Int) (a9 : Int) (a10 : Int) (a11 : Int) (a12 : Int) (a13 : Int) (a14 : Int) (a15 : Int) (a16 : Int) (a17 : Int) (a18 : Int) (a19 : Int) (a20 : Int) (a21 : Int) : alfN → DD (Lf alfN alfR) := fun a => nomatch a

noncomputable def alfA (a0 : Int) (a1 : Int) (a2 : Int) (a3 : Int) (a4 : Int) (a5 : Int) (a6 : Int) (a7 : Int) (a8 : Int) (a9 : Int) (a10 : Int) (a11 : Int) (a12 : Int) (a13 : Int) (a14 : Int) (a15 : Int) (a16 : Int) (a17 : Int) (a18 : Int) (a19 : Int) (a20 : Int) (a21 : Int) : AF alfN alfR where
  code := alfCode
  base := 0
  nt := 163
  m := 400
  un := []
  W := []
  h0 := []
  args := [.agg [.int .i64 (.x a0), .int .i64 (.x a1), .int .i64 (.x a2), .int .i64 (.x a3), .int .i64 (.x a4), .int .i64 (.x a5), .int .i64 (.x a6), .int .i64 (.x a7), .int .i64 (.x a8), .int .i64 (.x a9), .int .i64 (.x a10), .int .i64 (.x a11), .int .i64 (.x a12)], .agg [.int .i64 (.x a13), .int .i64 (.x a14), .int .i64 (.x a15), .int .i64 (.x a16), .int .i64 (.x a17), .int .i64 (.x a18), .int .i64 (.x a19)], .agg [.int .i64 (.x a20), .int .i64 (.x a21)]]
  res := (Try.f3).results.toList
  path := fun a => nomatch a
  pd := fun a => nomatch a
  D0 := alfD0 a0 a1 a2 a3 a4 a5 a6 a7 a8 a9 a10 a11 a12 a13 a14 a15 a16 a17 a18 a19 a20 a21
  D := alfD a0 a1 a2 a3 a4 a5 a6 a7 a8 a9 a10 a11 a12 a13 a14 a15 a16 a17 a18 a19 a20 a21
  rc := (fun v => .bool (.x v))
  rh := (fun v => [])
  rn := (fun v => 0)
  rx := (fun v => [])
  rgo := (fun _ => none)


theorem alfstart (a0 : Int) (a1 : Int) (a2 : Int) (a3 : Int) (a4 : Int) (a5 : Int) (a6 : Int) (a7 : Int) (a8 : Int) (a9 : Int) (a10 : Int) (a11 : Int) (a12 : Int) (a13 : Int) (a14 : Int) (a15 : Int) (a16 : Int) (a17 : Int) (a18 : Int) (a19 : Int) (a20 : Int) (a21 : Int) : AF.edgeOk (alfA a0 a1 a2 a3 a4 a5 a6 a7 a8 a9 a10 a11 a12 a13 a14 a15 a16 a17 a18 a19 a20 a21) (ctxOf Try.prog memo0) (alfD0 a0 a1 a2 a3 a4 a5 a6 a7 a8 a9 a10 a11 a12 a13 a14 a15 a16 a17 a18 a19 a20 a21) (AF.run0 (alfA a0 a1 a2 a3 a4 a5 a6 a7 a8 a9 a10 a11 a12 a13 a14 a15 a16 a17 a18 a19 a20 a21) (ctxOf Try.prog (memoA 19 abgP abgF (memoA 14 abl_P abl_F (memoA 15 absP absF (memoA 13 aboP aboF (memoA 17 abwP abwF (memoA 16 abkP abkF (memoA 12 abcP abcF (memoB [18])))))))))) := by unfold AF.edgeOk; kernel_rfl

theorem alfok (a0 : Int) (a1 : Int) (a2 : Int) (a3 : Int) (a4 : Int) (a5 : Int) (a6 : Int) (a7 : Int) (a8 : Int) (a9 : Int) (a10 : Int) (a11 : Int) (a12 : Int) (a13 : Int) (a14 : Int) (a15 : Int) (a16 : Int) (a17 : Int) (a18 : Int) (a19 : Int) (a20 : Int) (a21 : Int) : (alfA a0 a1 a2 a3 a4 a5 a6 a7 a8 a9 a10 a11 a12 a13 a14 a15 a16 a17 a18 a19 a20 a21).Ok Try.prog (ctxOf Try.prog (memoA 19 abgP abgF (memoA 14 abl_P abl_F (memoA 15 absP absF (memoA 13 aboP aboF (memoA 17 abwP abwF (memoA 16 abkP abkF (memoA 12 abcP abcF (memoB [18]))))))))) where
  regs := by kernel_rfl
  h0 := by kernel_rfl
  start := alfstart a0 a1 a2 a3 a4 a5 a6 a7 a8 a9 a10 a11 a12 a13 a14 a15 a16 a17 a18 a19 a20 a21
  node := fun a _ => nomatch a
  pd := fun a => nomatch a
  le := fun a => nomatch a
  rd := fun v => ⟨⟨fa_nil, fa_nil, fa_nil, rfl⟩, rfl⟩
  wb := rfl


theorem alfhR {ρ : Env} (a0 : Int) (a1 : Int) (a2 : Int) (a3 : Int) (a4 : Int) (a5 : Int) (a6 : Int) (a7 : Int) (a8 : Int) (a9 : Int) (a10 : Int) (a11 : Int) (a12 : Int) (a13 : Int) (a14 : Int) (a15 : Int) (a16 : Int) (a17 : Int) (a18 : Int) (a19 : Int) (a20 : Int) (a21 : Int) (hM : MemoOk Try.prog (ctxOf Try.prog (memoA 19 abgP abgF (memoA 14 abl_P abl_F (memoA 15 absP absF (memoA 13 aboP aboF (memoA 17 abwP abwF (memoA 16 abkP abkF (memoA 12 abcP abcF (memoB [18]))))))))) ρ) : ∀ X a q n D, FxOk ρ X → X.base = (alfA a0 a1 a2 a3 a4 a5 a6 a7 a8 a9 a10 a11 a12 a13 a14 a15 a16 a17 a18 a19 a20 a21).base → X.nt = (alfA a0 a1 a2 a3 a4 a5 a6 a7 a8 a9 a10 a11 a12 a13 a14 a15 a16 a17 a18 a19 a20 a21).nt → X.W = (alfA a0 a1 a2 a3 a4 a5 a6 a7 a8 a9 a10 a11 a12 a13 a14 a15 a16 a17 a18 a19 a20 a21).W → (alfA a0 a1 a2 a3 a4 a5 a6 a7 a8 a9 a10 a11 a12 a13 a14 a15 a16 a17 a18 a19 a20 a21).rgo a = some q → q n = some D → (alfA a0 a1 a2 a3 a4 a5 a6 a7 a8 a9 a10 a11 a12 a13 a14 a15 a16 a17 a18 a19 a20 a21).RangeOk Try.prog ρ X a D := AF.noRange rfl

theorem alfctr {ρ : Env} (a0 : Int) (a1 : Int) (a2 : Int) (a3 : Int) (a4 : Int) (a5 : Int) (a6 : Int) (a7 : Int) (a8 : Int) (a9 : Int) (a10 : Int) (a11 : Int) (a12 : Int) (a13 : Int) (a14 : Int) (a15 : Int) (a16 : Int) (a17 : Int) (a18 : Int) (a19 : Int) (a20 : Int) (a21 : Int) {n : Nat} {v : alfR} (hM : MemoOk Try.prog (ctxOf Try.prog (memoA 19 abgP abgF (memoA 14 abl_P abl_F (memoA 15 absP absF (memoA 13 aboP aboF (memoA 17 abwP abwF (memoA 16 abkP abkF (memoA 12 abcP abcF (memoB [18]))))))))) ρ) (hv : (alfA a0 a1 a2 a3 a4 a5 a6 a7 a8 a9 a10 a11 a12 a13 a14 a15 a16 a17 a18 a19 a20 a21).run n = some v) :
    Ctr Try.prog ρ 3 (alfA a0 a1 a2 a3 a4 a5 a6 a7 a8 a9 a10 a11 a12 a13 a14 a15 a16 a17 a18 a19 a20 a21).args (alfA a0 a1 a2 a3 a4 a5 a6 a7 a8 a9 a10 a11 a12 a13 a14 a15 a16 a17 a18 a19 a20 a21).H0 (alfA a0 a1 a2 a3 a4 a5 a6 a7 a8 a9 a10 a11 a12 a13 a14 a15 a16 a17 a18 a19 a20 a21).base (alfA a0 a1 a2 a3 a4 a5 a6 a7 a8 a9 a10 a11 a12 a13 a14 a15 a16 a17 a18 a19 a20 a21).W ((alfA a0 a1 a2 a3 a4 a5 a6 a7 a8 a9 a10 a11 a12 a13 a14 a15 a16 a17 a18 a19 a20 a21).rc v) (putH (alfA a0 a1 a2 a3 a4 a5 a6 a7 a8 a9 a10 a11 a12 a13 a14 a15 a16 a17 a18 a19 a20 a21).H0 ((alfA a0 a1 a2 a3 a4 a5 a6 a7 a8 a9 a10 a11 a12 a13 a14 a15 a16 a17 a18 a19 a20 a21).rh v ++ (alfA a0 a1 a2 a3 a4 a5 a6 a7 a8 a9 a10 a11 a12 a13 a14 a15 a16 a17 a18 a19 a20 a21).rx v)) ((alfA a0 a1 a2 a3 a4 a5 a6 a7 a8 a9 a10 a11 a12 a13 a14 a15 a16 a17 a18 a19 a20 a21).rn v) :=
  AF.ctr try_ok hM (alfok a0 a1 a2 a3 a4 a5 a6 a7 a8 a9 a10 a11 a12 a13 a14 a15 a16 a17 a18 a19 a20 a21) (fn := Try.f3) Try.func3 rfl rfl (Nat.le_of_ble_eq_true rfl) rfl (alfhR a0 a1 a2 a3 a4 a5 a6 a7 a8 a9 a10 a11 a12 a13 a14 a15 a16 a17 a18 a19 a20 a21 hM) hv


abbrev alfP : List AP := [.agg [.int .i64, .int .i64, .int .i64, .int .i64, .int .i64, .int .i64, .int .i64, .int .i64, .int .i64, .int .i64, .int .i64, .int .i64, .int .i64], .agg [.int .i64, .int .i64, .int .i64, .int .i64, .int .i64, .int .i64, .int .i64], .agg [.int .i64, .int .i64]]
noncomputable def alfF (v : AV) : AF alfN alfR := alfA (v.i.getD 0 0) (v.i.getD 1 0) (v.i.getD 2 0) (v.i.getD 3 0) (v.i.getD 4 0) (v.i.getD 5 0) (v.i.getD 6 0) (v.i.getD 7 0) (v.i.getD 8 0) (v.i.getD 9 0) (v.i.getD 10 0) (v.i.getD 11 0) (v.i.getD 12 0) (v.i.getD 13 0) (v.i.getD 14 0) (v.i.getD 15 0) (v.i.getD 16 0) (v.i.getD 17 0) (v.i.getD 18 0) (v.i.getD 19 0) (v.i.getD 20 0) (v.i.getD 21 0)
theorem alfknown {ρ : Env} (hM : MemoOk Try.prog (ctxOf Try.prog (memoA 19 abgP abgF (memoA 14 abl_P abl_F (memoA 15 absP absF (memoA 13 aboP aboF (memoA 17 abwP abwF (memoA 16 abkP abkF (memoA 12 abcP abcF (memoB [18]))))))))) ρ) : KnownA Try.prog ρ 3 alfP alfF where
  fn := ⟨Try.f3, Try.func3, rfl⟩
  args := fun v => rfl
  plain := fun v r => rfl
  ctr := fun v n r h => alfctr (v.i.getD 0 0) (v.i.getD 1 0) (v.i.getD 2 0) (v.i.getD 3 0) (v.i.getD 4 0) (v.i.getD 5 0) (v.i.getD 6 0) (v.i.getD 7 0) (v.i.getD 8 0) (v.i.getD 9 0) (v.i.getD 10 0) (v.i.getD 11 0) (v.i.getD 12 0) (v.i.getD 13 0) (v.i.getD 14 0) (v.i.getD 15 0) (v.i.getD 16 0) (v.i.getD 17 0) (v.i.getD 18 0) (v.i.getD 19 0) (v.i.getD 20 0) (v.i.getD 21 0) hM h

end Go.Proofs.Ytgnmdknbnkljbaa.Cx

/- BoltForces: its automaton returns true. Made by tools/gen_bcon.py. -/
namespace Go.Proofs.Ytgnmdknbnkljbaa.Cx
set_option linter.unusedVariables false
set_option linter.unusedSimpArgs false
set_option maxRecDepth 100000
set_option maxHeartbeats 4000000
open Go Go.RowKit

theorem alfmem {ρ : Env} : MemoOk Try.prog (ctxOf Try.prog (memoA 19 abgP abgF (memoA 14 abl_P abl_F (memoA 15 absP absF (memoA 13 aboP aboF (memoA 17 abwP abwF (memoA 16 abkP abkF (memoA 12 abcP abcF (memoB [18]))))))))) ρ := (memoA_ok (abgknown (memoA_ok (abfknown memo0_ok) (memoS_ok (abtknown (memoA_ok (abeknown memo0_ok) memo0_ok)) memo0_ok))) (memoA_ok (abl_known (memoA_ok (abqknown memo0_ok) (memoA_ok (abvknown memo0_ok) (memoA_ok (abcknown memo0_ok) memo0_ok)))) (memoA_ok (absknown (memoA_ok (abqknown memo0_ok) (memoA_ok (abvknown memo0_ok) (memoA_ok (abcknown memo0_ok) memo0_ok)))) (memoA_ok (aboknown memo0_ok) (memoA_ok (abwknown memo0_ok) (memoA_ok (abkknown memo0_ok) (memoA_ok (abcknown memo0_ok) (memoB_ok (fun f hf => by
    simp only [List.mem_cons, List.not_mem_nil, or_false] at hf
    subst hf
    exact CxKn09_known)))))))))
theorem alf_run (a0 a1 a2 a3 a4 a5 a6 a7 a8 a9 a10 a11 a12 a13 a14 a15 a16 a17 a18 a19 a20 a21 : Int) : ∃ n v, (alfA a0 a1 a2 a3 a4 a5 a6 a7 a8 a9 a10 a11 a12 a13 a14 a15 a16 a17 a18 a19 a20 a21).run n = some v ∧ v = true :=
  AF.run_sat (Inv := fun _ => False) (E := fun (v : alfR) => v = true) (fun _ => 0) (fun _ => rfl) (fun a => nomatch a) (by
    obtain ⟨c1, c2, c3⟩ := abc_val a0 a1 a2 a3 a4 a5 a6 a7 a8 a9 a10 a11 a12
    obtain ⟨k1, k2, k3⟩ := abk_val a0 a1 a2 a3 a4 a5 a6 a7 a8 a9 a10 a11 a12
    obtain ⟨w1, w2, w3⟩ := abw_val a13 a14 a15 a16 a17 a18 a19
    show DD.sat _ _ (alfD0 a0 a1 a2 a3 a4 a5 a6 a7 a8 a9 a10 a11 a12 a13 a14 a15 a16 a17 a18 a19 a20 a21)
    unfold alfD0
    by_cases hk : KindP a0 a1 a2 a3 a4 a5 a6 a7 a8 a9 a10 a11 a12
    · by_cases hw : WayP a13 a14 a15 a16 a17 a18 a19
      · obtain ⟨o1, o2, o3, o4⟩ := abo_ok a0 a1 a2 a3 a4 a5 a6 a7 a8 a9 a10 a11 a12 a13 a14 a15 a16 a17 a18 a19 hk hw
        obtain ⟨s1, s2, s3, s4⟩ := abs_ok a0 a1 a2 a3 a4 a5 a6 a7 a8 a9 a10 a11 a12 a13 a14 a15 a16 a17 a18 a19 hk hw
        obtain ⟨l1, l2, l3⟩ := abl__ok a0 a1 a2 a3 a4 a5 a6 a7 a8 a9 a10 a11 a12 a13 a14 a15 a16 a17 a18 a19 a20 a21 hk hw
        obtain ⟨g1, g2⟩ := abg_val (a13 := a13) (kw_of hk hw)
        unfold abgPost at g2
        have eo : AF.val (aboA a0 a1 a2 a3 a4 a5 a6 a7 a8 a9 a10 a11 a12 a13 a14 a15 a16 a17 a18 a19) = (fMin a0 a1 a2 a3 a4 a5 a6 a7 a8 a9 a10 a11 a12 a13 a14 a15 a16 a17 a18 a19, fMax a0 a1 a2 a3 a4 a5 a6 a7 a8 a9 a10 a11 a12 a13 a14 a15 a16 a17 a18 a19, 0) := Prod.ext o2 (Prod.ext o3 o4)
        have es : AF.val (absA a0 a1 a2 a3 a4 a5 a6 a7 a8 a9 a10 a11 a12 a13 a14 a15 a16 a17 a18 a19) = (decide (fMax a0 a1 a2 a3 a4 a5 a6 a7 a8 a9 a10 a11 a12 a13 a14 a15 a16 a17 a18 a19 ≤ a11), decide (fMin a0 a1 a2 a3 a4 a5 a6 a7 a8 a9 a10 a11 a12 a13 a14 a15 a16 a17 a18 a19 ≤ a12), 0) := Prod.ext (by rw [Bool.eq_iff_iff, s2, decide_eq_true_iff]) (Prod.ext (by rw [Bool.eq_iff_iff, s3, decide_eq_true_iff]) s4)
        obtain ⟨e1, e2, e3, e4, e5, e6, e7, e8, e9, e10, e11, e12, d1, d2, q3, q2, q1, r1, r2⟩ := force_eqs hk hw
        by_cases hl : 0 ≤ a20 ∧ a20 ≤ a21 ∧ a21 ≤ 100000000
        · rw [c1, k1, w1, o1, s1, l1, g1, c2 hk, k2 hk, w2 hw, eo, es, l2 hl, g2]
          have x1 : Ar.run Ar.mx IntKind.i64 0 (Ar.run Ar.sub IntKind.i64 (fMin a0 a1 a2 a3 a4 a5 a6 a7 a8 a9 a10 a11 a12 a13 a14 a15 a16 a17 a18 a19) a21) = max 0 (fMin a0 a1 a2 a3 a4 a5 a6 a7 a8 a9 a10 a11 a12 a13 a14 a15 a16 a17 a18 a19 - a21) := by rw [arSub (by omega), arMx]
          have x2 : Ar.run Ar.mx IntKind.i64 0 (Ar.run Ar.sub IntKind.i64 (fMax a0 a1 a2 a3 a4 a5 a6 a7 a8 a9 a10 a11 a12 a13 a14 a15 a16 a17 a18 a19) a20) = max 0 (fMax a0 a1 a2 a3 a4 a5 a6 a7 a8 a9 a10 a11 a12 a13 a14 a15 a16 a17 a18 a19 - a20) := by rw [arSub (by omega), arMx]
          simp only [x1, x2]
          generalize fMin a0 a1 a2 a3 a4 a5 a6 a7 a8 a9 a10 a11 a12 a13 a14 a15 a16 a17 a18 a19 = fm at *
          generalize fMax a0 a1 a2 a3 a4 a5 a6 a7 a8 a9 a10 a11 a12 a13 a14 a15 a16 a17 a18 a19 = fM at *
          clear c1 c2 c3 k1 k2 k3 w1 w2 w3 o1 o2 o3 o4 s1 s2 s3 s4 l1 l2 l3 g1 g2 eo es e1 e2 e3 e4 e5 e6 e7 e8 e9 e10 e11 e12 d1 d2 q3 q2 q1 x1 x2
          by_cases y1 : fM ≤ a11 <;> by_cases y2 : fm ≤ a12 <;> simp [DD.sat, cmLeq, cmGeq, cmLss, cmGtr, cmEql, cmNeq, cmLeqF, cmGeqF, cmLssF, cmGtrF, cmEqlF, cmNeqF, y1, y2] <;> omega
        · rw [c1, k1, w1, o1, s1, l1, g1, c2 hk, k2 hk, w2 hw, eo, es, l3 hl, g2]
          generalize fMin a0 a1 a2 a3 a4 a5 a6 a7 a8 a9 a10 a11 a12 a13 a14 a15 a16 a17 a18 a19 = fm at *
          generalize fMax a0 a1 a2 a3 a4 a5 a6 a7 a8 a9 a10 a11 a12 a13 a14 a15 a16 a17 a18 a19 = fM at *
          clear c1 c2 c3 k1 k2 k3 w1 w2 w3 o1 o2 o3 o4 s1 s2 s3 s4 l1 l2 l3 g1 g2 eo es e1 e2 e3 e4 e5 e6 e7 e8 e9 e10 e11 e12 d1 d2 q3 q2 q1
          by_cases y1 : fM ≤ a11 <;> by_cases y2 : fm ≤ a12 <;> simp [DD.sat, cmLeq, cmGeq, cmLss, cmGtr, cmEql, cmNeq, cmLeqF, cmGeqF, cmLssF, cmGtrF, cmEqlF, cmNeqF, y1, y2] <;> omega
      · have hb : ¬ (KindP a0 a1 a2 a3 a4 a5 a6 a7 a8 a9 a10 a11 a12 ∧ WayP a13 a14 a15 a16 a17 a18 a19) := fun h => hw h.2
        obtain ⟨o1, o2⟩ := abo_bad a0 a1 a2 a3 a4 a5 a6 a7 a8 a9 a10 a11 a12 a13 a14 a15 a16 a17 a18 a19 hb
        obtain ⟨s1, s2⟩ := abs_bad a0 a1 a2 a3 a4 a5 a6 a7 a8 a9 a10 a11 a12 a13 a14 a15 a16 a17 a18 a19 hb
        obtain ⟨l1, l2⟩ := abl__bad a0 a1 a2 a3 a4 a5 a6 a7 a8 a9 a10 a11 a12 a13 a14 a15 a16 a17 a18 a19 a20 a21 hb
        rw [c1, k1, w1, o1, s1, l1, c2 hk, k2 hk, w3 hw, o2, s2, l2]
        simp [DD.sat, cmLeq, cmGeq, cmLss, cmGtr, cmEql, cmNeq, cmLeqF, cmGeqF, cmLssF, cmGtrF, cmEqlF, cmNeqF]
    · have hb : ¬ (KindP a0 a1 a2 a3 a4 a5 a6 a7 a8 a9 a10 a11 a12 ∧ WayP a13 a14 a15 a16 a17 a18 a19) := fun h => hk h.1
      obtain ⟨o1, o2⟩ := abo_bad a0 a1 a2 a3 a4 a5 a6 a7 a8 a9 a10 a11 a12 a13 a14 a15 a16 a17 a18 a19 hb
      obtain ⟨s1, s2⟩ := abs_bad a0 a1 a2 a3 a4 a5 a6 a7 a8 a9 a10 a11 a12 a13 a14 a15 a16 a17 a18 a19 hb
      obtain ⟨l1, l2⟩ := abl__bad a0 a1 a2 a3 a4 a5 a6 a7 a8 a9 a10 a11 a12 a13 a14 a15 a16 a17 a18 a19 a20 a21 hb
      rw [c1, k1, o1, s1, l1, c3 hk, k3 hk, o2, s2, l2]
      simp [DD.sat, cmLeq, cmGeq, cmLss, cmGtr, cmEql, cmNeq, cmLeqF, cmGeqF, cmLssF, cmGtrF, cmEqlF, cmNeqF])
end Go.Proofs.Ytgnmdknbnkljbaa.Cx

/- ARGUMENTS THAT ARE SLICES: opened as lists; the memory in which they lie as blocks that are read alone; a law's contract as its statement's walk. -/
namespace Go.Proofs.Ytgnmdknbnkljbaa.Cx
set_option linter.unusedSimpArgs false
set_option linter.unusedVariables false
open Go Go.RowKit Go.ChangeShapes Go.WideShapes Go.Deep Go.Proofs.Ytgnmdknbnkljbaa

/-! ## Such slices as blocks -/

section
variable {P : Program} {ρ : Env}

/-- Where a slice's rows lie. -/
noncomputable def locOf (w : World) (v : Value) (z : Nat) : Option Loc :=
  match v with
  | .slice (some a) (_ + 1) _ => match w.heap[a.block]? with
    | some (.cells c _ _) => some ⟨a.block, a.off, c.size, z⟩
    | _ => none
  | _ => none

theorem rows_rel {α : Type} {en : α → List Value} {ec : α → List CV} {d : α} (he : ∀ σ x, VRl ρ σ (ec x) (en x)) (σ : Mp) : ∀ (xs : List α) (n : Nat), n ≤ xs.length → VRl ρ σ (flatR (fun j => ec (xs.getD j d)) n) ((xs.take n).flatMap en)
  | xs, 0, _ => by simpa [flatR] using VRl.nil
  | xs, n + 1, h => by
    have ih := rows_rel (d := d) he σ xs n (by omega)
    rw [flatR, List.take_add_one, List.flatMap_append]
    refine ih.append ?_
    have hn : n < xs.length := by omega
    rw [List.getElem?_eq_getElem hn, List.getD_eq_getElem?_getD, List.getElem?_eq_getElem hn]
    simpa using he σ xs[n]

theorem SlR.rel {α : Type} {en : α → List Value} {ec : α → List CV} {d : α} {z : Nat} {w : World} {v : Value} {xs : List α} {σ : Mp} {b : Nat} (h : SlR en z w v xs) (hz : ∀ x, (en x).length = z) (he : ∀ σ x, VRl ρ σ (ec x) (en x))
    (hk : ∀ j, (ec (xs.getD j d)).length = z ∧ (ec (xs.getD j d)).all CV.flat = true) (hσ : σ b = locOf w v z) :
    VR ρ σ (.sla b z 0 xs.length) v ∧ ArgAt ρ w ⟨.arg xs.length z (fun j => ec (xs.getD j d)) hk, z, true, none⟩ (σ b) := by
  obtain ⟨a, cap, rfl, hcap, _, hx⟩ := h
  have hcl : Blk.cells ⟨.arg xs.length z (fun j => ec (xs.getD j d)) hk, z, true, none⟩ = flatR (fun j => ec (xs.getD j d)) xs.length := rfl
  have hlen := flatR_length (fun j => (hk j).1) xs.length
  rcases hx with rfl | ⟨bl, off, c, t, p, rfl, hh, hsz, hrow⟩
  · refine ⟨.sla0 _ _, rfl, rfl, rfl, fun l hl => ?_⟩
    rw [hσ] at hl
    simp [locOf] at hl
  · cases xs with
    | nil =>
      refine ⟨.sla0 _ _, rfl, rfl, rfl, fun l hl => ?_⟩
      rw [hσ] at hl
      simp [locOf] at hl
    | cons x xs =>
      have hlo : locOf w (.slice (some ⟨bl, off, none⟩) (x :: xs).length cap) z = some ⟨bl, off, c.size, z⟩ := by
        simp [locOf, hh]
      rw [hlo] at hσ
      refine ⟨?_, rfl, rfl, rfl, fun l hl => ?_⟩
      · have := VR.sla (ρ := ρ) (σ := σ) (b := b) (z := z) (o := 0) (n := (x :: xs).length) (c' := cap) hσ hcap
        simpa using this
      · rw [hσ] at hl
        obtain rfl := Option.some.inj hl
        refine ⟨c, t, p, hh, rfl, rfl, by rw [hcl, hlen]; exact hsz, fun τ => ?_⟩
        rw [hcl, hlen, hrow]
        have := rows_rel (ρ := ρ) (d := d) he τ (x :: xs) (x :: xs).length (Nat.le_refl _)
        rwa [List.take_of_length_le (Nat.le_refl _)] at this

/-- A law's contract, as its statement's walk. -/
theorem Ctr.law {f : Nat} {args : List CV} {h0 h1 : Tr Blk} {base n1 : Nat} {e : BE} {w : World} {σ : Mp} {args' : Array Value} (K : Ctr P ρ f args h0 base [] (.bool e) h1 n1) (he : e.den ρ = true) (ha : VRl ρ σ args args'.toList) (hH : HR ρ σ (curOf h0 base) w) (hN : ∀ b, base ≤ b → σ b = none) :
    Calls P f args' w fun e w' => e = .returned (.bool true) ∧ Below w.heap.size w w' := by
  refine ((K.run 0 σ w args' ha hH hN).calls (fun k d h => by cases h)).mono ?_
  rintro e' w' ⟨v, rfl, σ', h1, h2, h3, h4, h5⟩
  cases h2
  refine ⟨by rw [he], h4.os, h4.tape, h4.output, h4.size, fun k hk => h4.block k hk (fun b hb l hl => ?_)⟩
  rcases hb with hb | hb
  · cases hb
  · rw [hN b hb] at hl; cases hl

end
end Go.Proofs.Ytgnmdknbnkljbaa.Cx

/- BoltForces holds, for all inputs: by its automaton. Made by tools/cxlaw.py. -/
namespace Go.Proofs.Ytgnmdknbnkljbaa
set_option linter.unusedVariables false
set_option linter.unusedSimpArgs false
open Go.ChangeShapes Go.WideShapes Go.ChangeAt Go.RowKit
open Cx (Env IE BE DT KnownB)

set_option maxRecDepth 100000 in
theorem blfor_open0 {H : Type} {enc : TypeId × Value → H} {w : World} {base : Nat} {spare : Nat → Bool} {held : Bool} {r : Reach} {b0 : Nat} {vv : Value} {d : DataW H} {p : List MemPlace} (hval : Value.okWide Try.prog w r b0 25 vv) (h : DataW.Trod enc Try.prog w base spare held 25 vv d p) :
    ∃ (x0 : Int) (x1 : Int) (x2 : Int) (x3 : Int) (x4 : Int) (x5 : Int) (x6 : Int) (x7 : Int) (x8 : Int) (x9 : Int) (x10 : Int) (x11 : Int) (x12 : Int), vv = .agg #[.int .i64 x0, .int .i64 x1, .int .i64 x2, .int .i64 x3, .int .i64 x4, .int .i64 x5, .int .i64 x6, .int .i64 x7, .int .i64 x8, .int .i64 x9, .int .i64 x10, .int .i64 x11, .int .i64 x12] ∧ (Lit.int .i64 x0).wf = true ∧ (Lit.int .i64 x1).wf = true ∧ (Lit.int .i64 x2).wf = true ∧ (Lit.int .i64 x3).wf = true ∧ (Lit.int .i64 x4).wf = true ∧ (Lit.int .i64 x5).wf = true ∧ (Lit.int .i64 x6).wf = true ∧ (Lit.int .i64 x7).wf = true ∧ (Lit.int .i64 x8).wf = true ∧ (Lit.int .i64 x9).wf = true ∧ (Lit.int .i64 x10).wf = true ∧ (Lit.int .i64 x11).wf = true ∧ (Lit.int .i64 x12).wf = true := by
  obtain ⟨cs, rfl, hsz⟩ := okWide_struct Try.underlying25 hval
  obtain ⟨l⟩ := cs
  obtain ⟨fuel, hf⟩ := h
  have hl : l.length = 13 := hsz.trans (by kernel_rfl)
  obtain ⟨nA3, yA3, tA3⟩ := trodS Try.underlying25 hf 3 _ rfl (o := 3) (c := 2) (ty := 23) rfl rfl (by kernel_rfl)
  obtain ⟨nA4, yA4, tA4⟩ := trodS Try.underlying25 hf 4 _ rfl (o := 5) (c := 2) (ty := 23) rfl rfl (by kernel_rfl)
  obtain ⟨nA5, yA5, tA5⟩ := trodS Try.underlying25 hf 5 _ rfl (o := 7) (c := 2) (ty := 23) rfl rfl (by kernel_rfl)
  obtain ⟨nA6, yA6, tA6⟩ := trodS Try.underlying25 hf 6 _ rfl (o := 9) (c := 2) (ty := 23) rfl rfl (by kernel_rfl)
  obtain ⟨nA7, yA7, tA7⟩ := trodS Try.underlying25 hf 7 _ rfl (o := 11) (c := 2) (ty := 23) rfl rfl (by kernel_rfl)
  obtain ⟨n0, y0, t0⟩ := trodS Try.underlying25 hf 0 _ rfl (o := 0) (c := 1) (ty := 3) rfl rfl (by kernel_rfl)
  obtain ⟨x0, g0, w0⟩ := leafI Try.underlying3 t0
  obtain ⟨n1, y1, t1⟩ := trodS Try.underlying25 hf 1 _ rfl (o := 1) (c := 1) (ty := 3) rfl rfl (by kernel_rfl)
  obtain ⟨x1, g1, w1⟩ := leafI Try.underlying3 t1
  obtain ⟨n2, y2, t2⟩ := trodS Try.underlying25 hf 2 _ rfl (o := 2) (c := 1) (ty := 3) rfl rfl (by kernel_rfl)
  obtain ⟨x2, g2, w2⟩ := leafI Try.underlying3 t2
  obtain ⟨n3, y3, t3⟩ := trodS Try.underlying23 tA3 0 _ rfl (o := 0) (c := 1) (ty := 3) rfl rfl (by kernel_rfl)
  rw [sub_of (s := 3) rfl (by decide)] at t3
  obtain ⟨x3, g3, w3⟩ := leafI Try.underlying3 t3
  obtain ⟨n4, y4, t4⟩ := trodS Try.underlying23 tA3 1 _ rfl (o := 1) (c := 1) (ty := 3) rfl rfl (by kernel_rfl)
  rw [sub_of (s := 4) rfl (by decide)] at t4
  obtain ⟨x4, g4, w4⟩ := leafI Try.underlying3 t4
  obtain ⟨n5, y5, t5⟩ := trodS Try.underlying23 tA4 0 _ rfl (o := 0) (c := 1) (ty := 3) rfl rfl (by kernel_rfl)
  rw [sub_of (s := 5) rfl (by decide)] at t5
  obtain ⟨x5, g5, w5⟩ := leafI Try.underlying3 t5
  obtain ⟨n6, y6, t6⟩ := trodS Try.underlying23 tA4 1 _ rfl (o := 1) (c := 1) (ty := 3) rfl rfl (by kernel_rfl)
  rw [sub_of (s := 6) rfl (by decide)] at t6
  obtain ⟨x6, g6, w6⟩ := leafI Try.underlying3 t6
  obtain ⟨n7, y7, t7⟩ := trodS Try.underlying23 tA5 0 _ rfl (o := 0) (c := 1) (ty := 3) rfl rfl (by kernel_rfl)
  rw [sub_of (s := 7) rfl (by decide)] at t7
  obtain ⟨x7, g7, w7⟩ := leafI Try.underlying3 t7
  obtain ⟨n8, y8, t8⟩ := trodS Try.underlying23 tA5 1 _ rfl (o := 1) (c := 1) (ty := 3) rfl rfl (by kernel_rfl)
  rw [sub_of (s := 8) rfl (by decide)] at t8
  obtain ⟨x8, g8, w8⟩ := leafI Try.underlying3 t8
  obtain ⟨n9, y9, t9⟩ := trodS Try.underlying23 tA6 0 _ rfl (o := 0) (c := 1) (ty := 3) rfl rfl (by kernel_rfl)
  rw [sub_of (s := 9) rfl (by decide)] at t9
  obtain ⟨x9, g9, w9⟩ := leafI Try.underlying3 t9
  obtain ⟨n10, y10, t10⟩ := trodS Try.underlying23 tA6 1 _ rfl (o := 1) (c := 1) (ty := 3) rfl rfl (by kernel_rfl)
  rw [sub_of (s := 10) rfl (by decide)] at t10
  obtain ⟨x10, g10, w10⟩ := leafI Try.underlying3 t10
  obtain ⟨n11, y11, t11⟩ := trodS Try.underlying23 tA7 0 _ rfl (o := 0) (c := 1) (ty := 3) rfl rfl (by kernel_rfl)
  rw [sub_of (s := 11) rfl (by decide)] at t11
  obtain ⟨x11, g11, w11⟩ := leafI Try.underlying3 t11
  obtain ⟨n12, y12, t12⟩ := trodS Try.underlying23 tA7 1 _ rfl (o := 1) (c := 1) (ty := 3) rfl rfl (by kernel_rfl)
  rw [sub_of (s := 12) rfl (by decide)] at t12
  obtain ⟨x12, g12, w12⟩ := leafI Try.underlying3 t12
  refine ⟨x0, x1, x2, x3, x4, x5, x6, x7, x8, x9, x10, x11, x12, ?_, w0, w1, w2, w3, w4, w5, w6, w7, w8, w9, w10, w11, w12⟩
  clear hval hsz hf t0 t1 t2 t3 t4 t5 t6 t7 t8 t9 t10 t11 t12
  match l, hl with
  | [k0, k1, k2, k3, k4, k5, k6, k7, k8, k9, k10, k11, k12], _ =>
    simp [Value.cells] at g0 g1 g2 g3 g4 g5 g6 g7 g8 g9 g10 g11 g12
    subst g0 g1 g2 g3 g4 g5 g6 g7 g8 g9 g10 g11 g12
    rfl

set_option maxRecDepth 100000 in
theorem blfor_open1 {H : Type} {enc : TypeId × Value → H} {w : World} {base : Nat} {spare : Nat → Bool} {held : Bool} {r : Reach} {b0 : Nat} {vv : Value} {d : DataW H} {p : List MemPlace} (hval : Value.okWide Try.prog w r b0 28 vv) (h : DataW.Trod enc Try.prog w base spare held 28 vv d p) :
    ∃ (x0 : Int) (x1 : Int) (x2 : Int) (x3 : Int) (x4 : Int) (x5 : Int) (x6 : Int), vv = .agg #[.int .i64 x0, .int .i64 x1, .int .i64 x2, .int .i64 x3, .int .i64 x4, .int .i64 x5, .int .i64 x6] ∧ (Lit.int .i64 x0).wf = true ∧ (Lit.int .i64 x1).wf = true ∧ (Lit.int .i64 x2).wf = true ∧ (Lit.int .i64 x3).wf = true ∧ (Lit.int .i64 x4).wf = true ∧ (Lit.int .i64 x5).wf = true ∧ (Lit.int .i64 x6).wf = true := by
  obtain ⟨cs, rfl, hsz⟩ := okWide_struct Try.underlying28 hval
  obtain ⟨l⟩ := cs
  obtain ⟨fuel, hf⟩ := h
  have hl : l.length = 7 := hsz.trans (by kernel_rfl)
  obtain ⟨nA1, yA1, tA1⟩ := trodS Try.underlying28 hf 1 _ rfl (o := 1) (c := 2) (ty := 23) rfl rfl (by kernel_rfl)
  obtain ⟨nA2, yA2, tA2⟩ := trodS Try.underlying28 hf 2 _ rfl (o := 3) (c := 2) (ty := 23) rfl rfl (by kernel_rfl)
  obtain ⟨nA3, yA3, tA3⟩ := trodS Try.underlying28 hf 3 _ rfl (o := 5) (c := 2) (ty := 23) rfl rfl (by kernel_rfl)
  obtain ⟨n0, y0, t0⟩ := trodS Try.underlying28 hf 0 _ rfl (o := 0) (c := 1) (ty := 26) rfl rfl (by kernel_rfl)
  obtain ⟨x0, g0, w0⟩ := leafI Try.underlying26 t0
  obtain ⟨n1, y1, t1⟩ := trodS Try.underlying23 tA1 0 _ rfl (o := 0) (c := 1) (ty := 3) rfl rfl (by kernel_rfl)
  rw [sub_of (s := 1) rfl (by decide)] at t1
  obtain ⟨x1, g1, w1⟩ := leafI Try.underlying3 t1
  obtain ⟨n2, y2, t2⟩ := trodS Try.underlying23 tA1 1 _ rfl (o := 1) (c := 1) (ty := 3) rfl rfl (by kernel_rfl)
  rw [sub_of (s := 2) rfl (by decide)] at t2
  obtain ⟨x2, g2, w2⟩ := leafI Try.underlying3 t2
  obtain ⟨n3, y3, t3⟩ := trodS Try.underlying23 tA2 0 _ rfl (o := 0) (c := 1) (ty := 3) rfl rfl (by kernel_rfl)
  rw [sub_of (s := 3) rfl (by decide)] at t3
  obtain ⟨x3, g3, w3⟩ := leafI Try.underlying3 t3
  obtain ⟨n4, y4, t4⟩ := trodS Try.underlying23 tA2 1 _ rfl (o := 1) (c := 1) (ty := 3) rfl rfl (by kernel_rfl)
  rw [sub_of (s := 4) rfl (by decide)] at t4
  obtain ⟨x4, g4, w4⟩ := leafI Try.underlying3 t4
  obtain ⟨n5, y5, t5⟩ := trodS Try.underlying23 tA3 0 _ rfl (o := 0) (c := 1) (ty := 3) rfl rfl (by kernel_rfl)
  rw [sub_of (s := 5) rfl (by decide)] at t5
  obtain ⟨x5, g5, w5⟩ := leafI Try.underlying3 t5
  obtain ⟨n6, y6, t6⟩ := trodS Try.underlying23 tA3 1 _ rfl (o := 1) (c := 1) (ty := 3) rfl rfl (by kernel_rfl)
  rw [sub_of (s := 6) rfl (by decide)] at t6
  obtain ⟨x6, g6, w6⟩ := leafI Try.underlying3 t6
  refine ⟨x0, x1, x2, x3, x4, x5, x6, ?_, w0, w1, w2, w3, w4, w5, w6⟩
  clear hval hsz hf t0 t1 t2 t3 t4 t5 t6
  match l, hl with
  | [k0, k1, k2, k3, k4, k5, k6], _ =>
    simp [Value.cells] at g0 g1 g2 g3 g4 g5 g6
    subst g0 g1 g2 g3 g4 g5 g6
    rfl

set_option maxRecDepth 100000 in
theorem blfor_open2 {H : Type} {enc : TypeId × Value → H} {w : World} {base : Nat} {spare : Nat → Bool} {held : Bool} {r : Reach} {b0 : Nat} {vv : Value} {d : DataW H} {p : List MemPlace} (hval : Value.okWide Try.prog w r b0 23 vv) (h : DataW.Trod enc Try.prog w base spare held 23 vv d p) :
    ∃ (x0 : Int) (x1 : Int), vv = .agg #[.int .i64 x0, .int .i64 x1] ∧ (Lit.int .i64 x0).wf = true ∧ (Lit.int .i64 x1).wf = true := by
  obtain ⟨cs, rfl, hsz⟩ := okWide_struct Try.underlying23 hval
  obtain ⟨l⟩ := cs
  obtain ⟨fuel, hf⟩ := h
  have hl : l.length = 2 := hsz.trans (by kernel_rfl)
  obtain ⟨n0, y0, t0⟩ := trodS Try.underlying23 hf 0 _ rfl (o := 0) (c := 1) (ty := 3) rfl rfl (by kernel_rfl)
  obtain ⟨x0, g0, w0⟩ := leafI Try.underlying3 t0
  obtain ⟨n1, y1, t1⟩ := trodS Try.underlying23 hf 1 _ rfl (o := 1) (c := 1) (ty := 3) rfl rfl (by kernel_rfl)
  obtain ⟨x1, g1, w1⟩ := leafI Try.underlying3 t1
  refine ⟨x0, x1, ?_, w0, w1⟩
  clear hval hsz hf t0 t1
  match l, hl with
  | [k0, k1], _ =>
    simp [Value.cells] at g0 g1
    subst g0 g1
    rfl

theorem blfor_walk (x0 : Int) (x1 : Int) (x2 : Int) (x3 : Int) (x4 : Int) (x5 : Int) (x6 : Int) (x7 : Int) (x8 : Int) (x9 : Int) (x10 : Int) (x11 : Int) (x12 : Int) (x13 : Int) (x14 : Int) (x15 : Int) (x16 : Int) (x17 : Int) (x18 : Int) (x19 : Int) (x20 : Int) (x21 : Int) (w : World) (wx0 : (Lit.int .i64 x0).wf = true) (wx1 : (Lit.int .i64 x1).wf = true) (wx2 : (Lit.int .i64 x2).wf = true) (wx3 : (Lit.int .i64 x3).wf = true) (wx4 : (Lit.int .i64 x4).wf = true) (wx5 : (Lit.int .i64 x5).wf = true) (wx6 : (Lit.int .i64 x6).wf = true) (wx7 : (Lit.int .i64 x7).wf = true) (wx8 : (Lit.int .i64 x8).wf = true) (wx9 : (Lit.int .i64 x9).wf = true) (wx10 : (Lit.int .i64 x10).wf = true) (wx11 : (Lit.int .i64 x11).wf = true) (wx12 : (Lit.int .i64 x12).wf = true) (wx13 : (Lit.int .i64 x13).wf = true) (wx14 : (Lit.int .i64 x14).wf = true) (wx15 : (Lit.int .i64 x15).wf = true) (wx16 : (Lit.int .i64 x16).wf = true) (wx17 : (Lit.int .i64 x17).wf = true) (wx18 : (Lit.int .i64 x18).wf = true) (wx19 : (Lit.int .i64 x19).wf = true) (wx20 : (Lit.int .i64 x20).wf = true) (wx21 : (Lit.int .i64 x21).wf = true) :
    Calls Try.prog 3 #[.agg #[.int .i64 x0, .int .i64 x1, .int .i64 x2, .int .i64 x3, .int .i64 x4, .int .i64 x5, .int .i64 x6, .int .i64 x7, .int .i64 x8, .int .i64 x9, .int .i64 x10, .int .i64 x11, .int .i64 x12], .agg #[.int .i64 x13, .int .i64 x14, .int .i64 x15, .int .i64 x16, .int .i64 x17, .int .i64 x18, .int .i64 x19], .agg #[.int .i64 x20, .int .i64 x21]] w fun e w' => e = .returned (.bool true) ∧ Below w.heap.size w w' := by
  obtain ⟨n, v, hv, hp⟩ := Cx.alf_run x0 x1 x2 x3 x4 x5 x6 x7 x8 x9 x10 x11 x12 x13 x14 x15 x16 x17 x18 x19 x20 x21
  exact Cx.Ctr.law (ρ := ⟨fun _ => 0, fun _ => false⟩) (σ := fun _ => none) (e := .x v) (Cx.alfctr x0 x1 x2 x3 x4 x5 x6 x7 x8 x9 x10 x11 x12 x13 x14 x15 x16 x17 x18 x19 x20 x21 Cx.alfmem hv) hp (.cons (.agg (.cons (.int .i64 (.x x0)) (.cons (.int .i64 (.x x1)) (.cons (.int .i64 (.x x2)) (.cons (.int .i64 (.x x3)) (.cons (.int .i64 (.x x4)) (.cons (.int .i64 (.x x5)) (.cons (.int .i64 (.x x6)) (.cons (.int .i64 (.x x7)) (.cons (.int .i64 (.x x8)) (.cons (.int .i64 (.x x9)) (.cons (.int .i64 (.x x10)) (.cons (.int .i64 (.x x11)) (.cons (.int .i64 (.x x12)) .nil)))))))))))))) (.cons (.agg (.cons (.int .i64 (.x x13)) (.cons (.int .i64 (.x x14)) (.cons (.int .i64 (.x x15)) (.cons (.int .i64 (.x x16)) (.cons (.int .i64 (.x x17)) (.cons (.int .i64 (.x x18)) (.cons (.int .i64 (.x x19)) .nil)))))))) (.cons (.agg (.cons (.int .i64 (.x x20)) (.cons (.int .i64 (.x x21)) .nil))) .nil))) ⟨fun _ _ _ _ _ h => (by cases h), fun _ _ _ _ _ _ _ _ h => (by cases h), fun _ _ _ _ _ _ h => (by cases h), fun _ _ _ _ _ _ _ _ _ _ h => (by cases h)⟩ (fun _ _ => rfl)

theorem blfor_own : ownKnob Try.prog.godebug = none := by kernel_rfl
theorem blfor_laidOut : laidOutB Try.prog = true := by kernel_rfl

set_option maxRecDepth 100000 in
theorem blfor_lifted (os : Os) (started : os.Started) (H : Type) (enc : TypeId × Value → H) :
    ReturnsInHanded {} Try.checked os 3 .any (Rows.boltForcesSpec.pre6 enc Try.prog Try.f3 Rows.boltForcesRow.domain false) (Rows.boltForcesSpec.post enc Try.prog Try.f3 false true false false) := by
  refine returnsInHanded_of_change (C := Try.checked) blfor_own started (by kernel_rfl) Try.func3
    (ChangeSpec.witness6 (enc := enc) (C := Try.checked) false ⟨#[], #[.agg #[.int .i64 0, .int .i64 0, .int .i64 0, .int .i64 0, .int .i64 0, .int .i64 0, .int .i64 0, .int .i64 0, .int .i64 0, .int .i64 0, .int .i64 0, .int .i64 0, .int .i64 0], .agg #[.int .i64 0, .int .i64 0, .int .i64 0, .int .i64 0, .int .i64 0, .int .i64 0, .int .i64 0], .agg #[.int .i64 0, .int .i64 0]], []⟩ 8 (by kernel_rfl) (by kernel_rfl) (by kernel_rfl) (by kernel_rfl)) ?_
  intro W base args ds gs before hval0 hW hcnd _
  have hval : ∀ (j : Nat) t v, Try.f3.params[j]? = some t → args[j]? = some v → Value.okWide Try.prog W .any base t v := hval0
  have hW' := hW
  obtain ⟨p, q, hA0, hV, rfl, hfz, hnd⟩ := hW
  have hA : DataW.TrodAll enc Try.prog W 0 (fun _ => true) true Try.f3.params.toList args.toList ds p := hA0
  rw [Try.params3] at hA hval
  obtain ⟨v0, vs0, d0, ds0, p0, q0, hargs, rfl, rfl, h0, r0⟩ := trodAll_cons hA
  obtain ⟨v1, vs1, d1, ds1, p1, q1, rfl, rfl, rfl, h1, r1⟩ := trodAll_cons r0
  obtain ⟨v2, vs2, d2, ds2, p2, q2, rfl, rfl, rfl, h2, r2⟩ := trodAll_cons r1
  obtain ⟨rfl, rfl, rfl⟩ := trodAll_nil r2
  obtain rfl : args = #[v0, v1, v2] := by cases args; simp_all
  obtain ⟨rfl, rfl⟩ := trodVars_none hV
  have k0 := h0
  have lt0 : ∀ x ∈ p0, x.block < W.heap.size := by obtain ⟨m, hm⟩ := k0; exact DataW.trod_lt m _ _ _ hm
  have k1 := h1
  have lt1 : ∀ x ∈ p1, x.block < W.heap.size := by obtain ⟨m, hm⟩ := k1; exact DataW.trod_lt m _ _ _ hm
  have k2 := h2
  have lt2 : ∀ x ∈ p2, x.block < W.heap.size := by obtain ⟨m, hm⟩ := k2; exact DataW.trod_lt m _ _ _ hm
  obtain ⟨x0, x1, x2, x3, x4, x5, x6, x7, x8, x9, x10, x11, x12, rfl, wx0, wx1, wx2, wx3, wx4, wx5, wx6, wx7, wx8, wx9, wx10, wx11, wx12⟩ := blfor_open0 (hval 0 25 v0 rfl rfl) h0
  obtain ⟨x13, x14, x15, x16, x17, x18, x19, rfl, wx13, wx14, wx15, wx16, wx17, wx18, wx19⟩ := blfor_open1 (hval 1 28 v1 rfl rfl) h1
  obtain ⟨x20, x21, rfl, wx20, wx21⟩ := blfor_open2 (hval 2 23 v2 rfl rfl) h2
  clear hA0 hval0
  refine (blfor_walk x0 x1 x2 x3 x4 x5 x6 x7 x8 x9 x10 x11 x12 x13 x14 x15 x16 x17 x18 x19 x20 x21 W wx0 wx1 wx2 wx3 wx4 wx5 wx6 wx7 wx8 wx9 wx10 wx11 wx12 wx13 wx14 wx15 wx16 wx17 wx18 wx19 wx20 wx21).mono fun e W' ⟨he, bel⟩ => ?_
  subst he
  exact ⟨_, rfl, _, _, _, [], _, [], hW', trodAll_mk1 (shut_bool Try.underlying4 _), (trodAll_cons_mk (Below.trod blfor_laidOut (by kernel_rfl) (of_decide_eq_true (by kernel_rfl)) k0 bel lt0) (trodAll_cons_mk (Below.trod blfor_laidOut (by kernel_rfl) (of_decide_eq_true (by kernel_rfl)) k1 bel lt1) (trodAll_cons_mk (Below.trod blfor_laidOut (by kernel_rfl) (of_decide_eq_true (by kernel_rfl)) k2 bel lt2) trodAll_mk0))), rfl, bel.frame _, fun h => by cases h⟩

theorem blfor_over : Rows.boltForcesRow.holds Try.pinned (OpenSpec.ofChange Rows.boltForcesSpec) :=
  OpenClaim.holds_of_wide 3 Try.f3 rfl rfl rfl rfl rfl rfl rfl ⟨rfl, rfl, rfl, rfl, rfl⟩ rfl rfl rfl rfl rfl (by kernel_rfl) Try.func3 (by kernel_rfl)
    (of_decide_eq_true (by kernel_rfl)) (by unfold Func.isWrapper; rw [if_neg (of_decide_eq_false (by kernel_rfl))]; exact ⟨rfl, rfl⟩)
    (fun os started H enc _ => blfor_lifted os started H enc)

theorem blfor_proved : Rows.BoltForcesSaid := blfor_over
#print axioms blfor_proved

end Go.Proofs.Ytgnmdknbnkljbaa
