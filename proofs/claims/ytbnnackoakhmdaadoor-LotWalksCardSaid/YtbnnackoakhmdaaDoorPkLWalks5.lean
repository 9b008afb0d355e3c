/- acme/lot.isTree as an automaton. Made by tools/cxauto.py. -/
import Derived.Test.YtbnnackoakhmdaaDoorProg
import Derived.WalkKit
import Derived.WalkSpells
import Derived.WalkLawsBesides
import Derived.RegionTactic
import Derived.ChangeAlike
import Derived.Deep.QuietTactic
import Derived.BigQuiet
import Derived.Lib.Hide
import Derived.Handy
import Derived.Test.YtbnnackoakhmdaaDoorPkLWalks4

namespace Go.Proofs.YtbnnackoakhmdaaDoor.Cx
set_option linter.unusedVariables false
set_option linter.unusedSimpArgs false
set_option maxRecDepth 100000
open Go Go.Proofs Go.RowKit

noncomputable abbrev lisCode : Code := funcCode Tryd.f18


inductive lisN where
  | n0 (p0 : Int)

abbrev lisR := Bool

noncomputable def lisD0 (a0 : Nat) (a1 : Nat → Int) (a2 : Nat → Int) (a3 : Nat → Int) (a4 : Nat → Int) (a5 : Int) : DD (Lf lisN lisR) :=
 .leaf (.next (.n0 0) [])

noncomputable def lisD (a0 : Nat) (a1 : Nat → Int) (a2 : Nat → Int) (a3 : Nat → Int) (a4 : Nat → Int) (a5 : Int) : lisN → DD (Lf lisN lisR)
 | .n0 p0 =>
 .ask (Cm.run Cm.lss p0 (↑a0 : Int))
   (.must (decide (0 ≤ p0))
   (.must (decide (p0 < (↑a0 : Int)))
   (.must (decide (0 + Int.toNat p0 < a0))
   (.ask (Cm.run Cm.lss (a2 (0 + Int.toNat p0)) 0)
   (.ask (Cm.run Cm.eql (a2 (0 + Int.toNat p0)) (-1))
   (.ask (Cm.run Cm.lss (a1 (0 + Int.toNat p0)) 0)
   (.leaf (.done false []))
   (.ask (Cm.run Cm.gtr (a1 (0 + Int.toNat p0)) (Ar.run Ar.sub IntKind.i64 a5 1))
   (.leaf (.done false []))
   (.ask (Cm.run Cm.lss (a3 (0 + Int.toNat p0)) (Ar.run Ar.add IntKind.i64 p0 1))
   (.leaf (.done false []))
   (.ask (Cm.run Cm.gtr (a3 (0 + Int.toNat p0)) (Ar.run Ar.sub IntKind.i64 ((↑a0 : Int)) 1))
   (.leaf (.done false []))
   (.ask (Cm.run Cm.lss (a4 (0 + Int.toNat p0)) (Ar.run Ar.add IntKind.i64 p0 1))
   (.leaf (.done false []))
   (.ask (Cm.run Cm.gtr (a4 (0 + Int.toNat p0)) (Ar.run Ar.sub IntKind.i64 ((↑a0 : Int)) 1))
   (.leaf (.done false []))
   (.leaf (.next (.n0 (Ar.run Ar.add IntKind.i64 p0 1)) []))))))))
   (.leaf (.done false [])))
   (.ask (Cm.run Cm.gtr (a2 (0 + Int.toNat p0)) 7)
   (.ask (Cm.run Cm.eql (a2 (0 + Int.toNat p0)) (-1))
   (.ask (Cm.run Cm.lss (a1 (0 + Int.toNat p0)) 0)
   (.leaf (.done false []))
   (.ask (Cm.run Cm.gtr (a1 (0 + Int.toNat p0)) (Ar.run Ar.sub IntKind.i64 a5 1))
   (.leaf (.done false []))
   (.ask (Cm.run Cm.lss (a3 (0 + Int.toNat p0)) (Ar.run Ar.add IntKind.i64 p0 1))
   (.leaf (.done false []))
   (.ask (Cm.run Cm.gtr (a3 (0 + Int.toNat p0)) (Ar.run Ar.sub IntKind.i64 ((↑a0 : Int)) 1))
   (.leaf (.done false []))
   (.ask (Cm.run Cm.lss (a4 (0 + Int.toNat p0)) (Ar.run Ar.add IntKind.i64 p0 1))
   (.leaf (.done false []))
   (.ask (Cm.run Cm.gtr (a4 (0 + Int.toNat p0)) (Ar.run Ar.sub IntKind.i64 ((↑a0 : Int)) 1))
   (.leaf (.done false []))
   (.leaf (.next (.n0 (Ar.run Ar.add IntKind.i64 p0 1)) []))))))))
   (.leaf (.done false [])))
   (.ask (Cm.run Cm.eql (a1 (0 + Int.toNat p0)) (-1))
   (.ask (Cm.run Cm.eql (a2 (0 + Int.toNat p0)) (a2 (0 + Int.toNat p0)))
   (.ask (Cm.run Cm.eql (a3 (0 + Int.toNat p0)) (-1))
   (.ask (Cm.run Cm.eql (a4 (0 + Int.toNat p0)) (-1))
   (.ask (Cm.run Cm.eql (a2 (0 + Int.toNat p0)) (-1))
   (.ask (Cm.run Cm.lss (a1 (0 + Int.toNat p0)) 0)
   (.leaf (.next (.n0 (Ar.run Ar.add IntKind.i64 p0 1)) []))
   (.ask (Cm.run Cm.gtr (a1 (0 + Int.toNat p0)) (Ar.run Ar.sub IntKind.i64 a5 1))
   (.leaf (.next (.n0 (Ar.run Ar.add IntKind.i64 p0 1)) []))
   (.ask (Cm.run Cm.lss (a3 (0 + Int.toNat p0)) (Ar.run Ar.add IntKind.i64 p0 1))
   (.leaf (.next (.n0 (Ar.run Ar.add IntKind.i64 p0 1)) []))
   (.ask (Cm.run Cm.gtr (a3 (0 + Int.toNat p0)) (Ar.run Ar.sub IntKind.i64 ((↑a0 : Int)) 1))
   (.leaf (.next (.n0 (Ar.run Ar.add IntKind.i64 p0 1)) []))
   (.ask (Cm.run Cm.lss (a4 (0 + Int.toNat p0)) (Ar.run Ar.add IntKind.i64 p0 1))
   (.leaf (.next (.n0 (Ar.run Ar.add IntKind.i64 p0 1)) []))
   (.ask (Cm.run Cm.gtr (a4 (0 + Int.toNat p0)) (Ar.run Ar.sub IntKind.i64 ((↑a0 : Int)) 1))
   (.leaf (.next (.n0 (Ar.run Ar.add IntKind.i64 p0 1)) []))
   (.leaf (.next (.n0 (Ar.run Ar.add IntKind.i64 p0 1)) []))))))))
   (.leaf (.next (.n0 (Ar.run Ar.add IntKind.i64 p0 1)) [])))
   (.ask (Cm.run Cm.eql (a2 (0 + Int.toNat p0)) (-1))
   (.ask (Cm.run Cm.lss (a1 (0 + Int.toNat p0)) 0)
   (.leaf (.done false []))
   (.ask (Cm.run Cm.gtr (a1 (0 + Int.toNat p0)) (Ar.run Ar.sub IntKind.i64 a5 1))
   (.leaf (.done false []))
   (.ask (Cm.run Cm.lss (a3 (0 + Int.toNat p0)) (Ar.run Ar.add IntKind.i64 p0 1))
   (.leaf (.done false []))
   (.ask (Cm.run Cm.gtr (a3 (0 + Int.toNat p0)) (Ar.run Ar.sub IntKind.i64 ((↑a0 : Int)) 1))
   (.leaf (.done false []))
   (.ask (Cm.run Cm.lss (a4 (0 + Int.toNat p0)) (Ar.run Ar.add IntKind.i64 p0 1))
   (.leaf (.done false []))
   (.ask (Cm.run Cm.gtr (a4 (0 + Int.toNat p0)) (Ar.run Ar.sub IntKind.i64 ((↑a0 : Int)) 1))
   (.leaf (.done false []))
   (.leaf (.next (.n0 (Ar.run Ar.add IntKind.i64 p0 1)) []))))))))
   (.leaf (.done false []))))
   (.ask (Cm.run Cm.eql (a2 (0 + Int.toNat p0)) (-1))
   (.ask (Cm.run Cm.lss (a1 (0 + Int.toNat p0)) 0)
   (.leaf (.done false []))
   (.ask (Cm.run Cm.gtr (a1 (0 + Int.toNat p0)) (Ar.run Ar.sub IntKind.i64 a5 1))
   (.leaf (.done false []))
   (.ask (Cm.run Cm.lss (a3 (0 + Int.toNat p0)) (Ar.run Ar.add IntKind.i64 p0 1))
   (.leaf (.done false []))
   (.ask (Cm.run Cm.gtr (a3 (0 + Int.toNat p0)) (Ar.run Ar.sub IntKind.i64 ((↑a0 : Int)) 1))
   (.leaf (.done false []))
   (.ask (Cm.run Cm.lss (a4 (0 + Int.toNat p0)) (Ar.run Ar.add IntKind.i64 p0 1))
   (.leaf (.done false []))
   (.ask (Cm.run Cm.gtr (a4 (0 + Int.toNat p0)) (Ar.run Ar.sub IntKind.i64 ((↑a0 : Int)) 1))
   (.leaf (.done false []))
   (.leaf (.next (.n0 (Ar.run Ar.add IntKind.i64 p0 1)) []))))))))
   (.leaf (.done false []))))
   (.ask (Cm.run Cm.eql (a2 (0 + Int.toNat p0)) (-1))
   (.ask (Cm.run Cm.lss (a1 (0 + Int.toNat p0)) 0)
   (.leaf (.done false []))
   (.ask (Cm.run Cm.gtr (a1 (0 + Int.toNat p0)) (Ar.run Ar.sub IntKind.i64 a5 1))
   (.leaf (.done false []))
   (.ask (Cm.run Cm.lss (a3 (0 + Int.toNat p0)) (Ar.run Ar.add IntKind.i64 p0 1))
   (.leaf (.done false []))
   (.ask (Cm.run Cm.gtr (a3 (0 + Int.toNat p0)) (Ar.run Ar.sub IntKind.i64 ((↑a0 : Int)) 1))
   (.leaf (.done false []))
   (.ask (Cm.run Cm.lss (a4 (0 + Int.toNat p0)) (Ar.run Ar.add IntKind.i64 p0 1))
   (.leaf (.done false []))
   (.ask (Cm.run Cm.gtr (a4 (0 + Int.toNat p0)) (Ar.run Ar.sub IntKind.i64 ((↑a0 : Int)) 1))
   (.leaf (.done false []))
   (.leaf (.next (.n0 (Ar.run Ar.add IntKind.i64 p0 1)) []))))))))
   (.leaf (.done false []))))
   (.ask (Cm.run Cm.eql (a2 (0 + Int.toNat p0)) (-1))
   (.ask (Cm.run Cm.lss (a1 (0 + Int.toNat p0)) 0)
   (.leaf (.done false []))
   (.ask (Cm.run Cm.gtr (a1 (0 + Int.toNat p0)) (Ar.run Ar.sub IntKind.i64 a5 1))
   (.leaf (.done false []))
   (.ask (Cm.run Cm.lss (a3 (0 + Int.toNat p0)) (Ar.run Ar.add IntKind.i64 p0 1))
   (.leaf (.done false []))
   (.ask (Cm.run Cm.gtr (a3 (0 + Int.toNat p0)) (Ar.run Ar.sub IntKind.i64 ((↑a0 : Int)) 1))
   (.leaf (.done false []))
   (.ask (Cm.run Cm.lss (a4 (0 + Int.toNat p0)) (Ar.run Ar.add IntKind.i64 p0 1))
   (.leaf (.done false []))
   (.ask (Cm.run Cm.gtr (a4 (0 + Int.toNat p0)) (Ar.run Ar.sub IntKind.i64 ((↑a0 : Int)) 1))
   (.leaf (.done false []))
   (.leaf (.next (.n0 (Ar.run Ar.add IntKind.i64 p0 1)) []))))))))
   (.leaf (.done false [])))))))))
   (.leaf (.done true []))

noncomputable def lisA (a0 : Nat) (a1 : Nat → Int) (a2 : Nat → Int) (a3 : Nat → Int) (a4 : Nat → Int) (a5 : Int) : AF lisN lisR where
  code := lisCode
  base := 1
  nt := 58
  m := 400
  un := []
  W := []
  h0 := [(0, ⟨.arg a0 4 (fun i => [.int .i64 (.x (a1 i)), .int .i64 (.x (a2 i)), .int .i64 (.x (a3 i)), .int .i64 (.x (a4 i))]) (fun _ => ⟨rfl, rfl⟩), 4, true, none⟩)]
  args := [.sla 0 4 0 a0, .int .i64 (.x a5)]
  res := (Tryd.f18).results.toList
  path := fun a => match a with
   | .n0 p0 => [1, 0, 1, 0]
  pd := fun a => match a with
   | .n0 p0 => ⟨[(0, .sla 0 4 0 a0), (1, .int .i64 (.x a5)), (9, .sla 0 4 0 a0), (10, .int .i64 (.x (↑a0))), (11, .int .i64 (.x p0))], [], 1, []⟩
  D0 := lisD0 a0 a1 a2 a3 a4 a5
  D := lisD a0 a1 a2 a3 a4 a5
  rc := (fun v => .bool (.x v))
  rh := (fun v => [])
  rn := (fun v => 1)
  rx := (fun v => [])
  rgo := (fun _ => none)


theorem lisstart (a0 : Nat) (a1 : Nat → Int) (a2 : Nat → Int) (a3 : Nat → Int) (a4 : Nat → Int) (a5 : Int) : AF.edgeOk (lisA a0 a1 a2 a3 a4 a5) (ctxOf Tryd.prog memo0) (lisD0 a0 a1 a2 a3 a4 a5) (AF.run0 (lisA a0 a1 a2 a3 a4 a5) (ctxOf Tryd.prog memo0)) := by unfold AF.edgeOk; kernel_rfl

theorem lisnode0 (a0 : Nat) (a1 : Nat → Int) (a2 : Nat → Int) (a3 : Nat → Int) (a4 : Nat → Int) (a5 : Int) (p0 : Int) : AF.edgeOk (lisA a0 a1 a2 a3 a4 a5) (ctxOf Tryd.prog memo0) (lisD a0 a1 a2 a3 a4 a5 (.n0 p0)) (AF.runN (lisA a0 a1 a2 a3 a4 a5) (ctxOf Tryd.prog memo0) (.n0 p0)) := by unfold AF.edgeOk; kernel_rfl

theorem lisok (a0 : Nat) (a1 : Nat → Int) (a2 : Nat → Int) (a3 : Nat → Int) (a4 : Nat → Int) (a5 : Int) : (lisA a0 a1 a2 a3 a4 a5).Ok Tryd.prog (ctxOf Tryd.prog memo0) where
  regs := by kernel_rfl
  h0 := by kernel_rfl
  start := lisstart a0 a1 a2 a3 a4 a5
  node := fun a _ => match a with
   | .n0 p0 => lisnode0 a0 a1 a2 a3 a4 a5 p0
  pd := fun a => match a with
   | .n0 p0 => ⟨(fa_cons rfl (fa_cons rfl (fa_cons rfl (fa_cons rfl (fa_cons rfl fa_nil))))), fa_nil, fa_nil, rfl⟩
  le := fun a => match a with
   | .n0 p0 => Nat.le_of_ble_eq_true rfl
  rd := fun v => ⟨⟨fa_nil, fa_nil, fa_nil, rfl⟩, rfl⟩
  wb := rfl


theorem lishR {ρ : Env} (a0 : Nat) (a1 : Nat → Int) (a2 : Nat → Int) (a3 : Nat → Int) (a4 : Nat → Int) (a5 : Int) (hM : MemoOk Tryd.prog (ctxOf Tryd.prog memo0) ρ) : ∀ X a q n D, FxOk ρ X → X.base = (lisA a0 a1 a2 a3 a4 a5).base → X.nt = (lisA a0 a1 a2 a3 a4 a5).nt → X.W = (lisA a0 a1 a2 a3 a4 a5).W → (lisA a0 a1 a2 a3 a4 a5).rgo a = some q → q n = some D → (lisA a0 a1 a2 a3 a4 a5).RangeOk Tryd.prog ρ X a D := AF.noRange rfl

theorem lisctr {ρ : Env} (a0 : Nat) (a1 : Nat → Int) (a2 : Nat → Int) (a3 : Nat → Int) (a4 : Nat → Int) (a5 : Int) {n : Nat} {v : lisR} (hM : MemoOk Tryd.prog (ctxOf Tryd.prog memo0) ρ) (hv : (lisA a0 a1 a2 a3 a4 a5).run n = some v) :
    Ctr Tryd.prog ρ 18 (lisA a0 a1 a2 a3 a4 a5).args (lisA a0 a1 a2 a3 a4 a5).H0 (lisA a0 a1 a2 a3 a4 a5).base (lisA a0 a1 a2 a3 a4 a5).W ((lisA a0 a1 a2 a3 a4 a5).rc v) (putH (lisA a0 a1 a2 a3 a4 a5).H0 ((lisA a0 a1 a2 a3 a4 a5).rh v ++ (lisA a0 a1 a2 a3 a4 a5).rx v)) ((lisA a0 a1 a2 a3 a4 a5).rn v) :=
  AF.ctr try_ok hM (lisok a0 a1 a2 a3 a4 a5) (fn := Tryd.f18) Tryd.func18 rfl rfl (Nat.le_of_ble_eq_true rfl) rfl (lishR a0 a1 a2 a3 a4 a5 hM) hv


theorem lismem {ρ : Env} : MemoOk Tryd.prog (ctxOf Tryd.prog memo0) ρ := memo0_ok


abbrev lisP : List AQ := [.rows [some .i64, some .i64, some .i64, some .i64], .int .i64]

noncomputable def lisF (v : AW) : AF lisN lisR := lisA (v.t.getD 0 .none).n ((v.t.getD 0 .none).c 0) ((v.t.getD 0 .none).c 1) ((v.t.getD 0 .none).c 2) ((v.t.getD 0 .none).c 3) (v.i.getD 0 0)

noncomputable def lisW : lisR → CV := fun v => .bool (.x v)
noncomputable def lisH : lisR → List (Nat × Blk) := fun v => []



instance : Inhabited lisR := ⟨false⟩
theorem lisknown {ρ : Env} (hM : MemoOk Tryd.prog (ctxOf Tryd.prog memo0) ρ) : KnownS Tryd.prog ρ 18 lisP lisF lisW lisH 1 where
  fn := ⟨Tryd.f18, Tryd.func18, rfl⟩
  le := Nat.le_of_ble_eq_true rfl
  full := fun r => rfl
  rg := fun r => rfl
  hg := fun r => fa_nil
  ctr := fun v n r h => lisctr (v.t.getD 0 .none).n ((v.t.getD 0 .none).c 0) ((v.t.getD 0 .none).c 1) ((v.t.getD 0 .none).c 2) ((v.t.getD 0 .none).c 3) (v.i.getD 0 0) hM h

end Go.Proofs.YtbnnackoakhmdaaDoor.Cx

/- acme/acmeref11.Nodes as an automaton. Made by tools/cxauto.py. -/
namespace Go.Proofs.YtbnnackoakhmdaaDoor.Cx
set_option linter.unusedVariables false
set_option linter.unusedSimpArgs false
set_option maxRecDepth 100000
open Go Go.Proofs Go.RowKit

noncomputable abbrev lnoCode : Code := funcCode Tryd.f6


inductive lnoN where
  | n0 (p0 : Int)

abbrev lnoR := Int

noncomputable def lnoD0 (a0 : Nat) (a1 : Nat → Int) (a2 : Nat → Int) (a3 : Nat → Int) (a4 : Nat → Int) (a5 : Int) : DD (Lf lnoN lnoR) :=
 .ask (Cm.run Cm.gtr ((↑a0 : Int)) 511)
   (.leaf (.done 5 []))
   (.ask (Cm.run Cm.gtr a5 10)
   (.leaf (.done 5 []))
   (.ask (Cm.run Cm.eql ((↑a0 : Int)) 0)
   (.leaf (.done 2 []))
   (.leaf (.next (.n0 0) []))))

noncomputable def lnoD (a0 : Nat) (a1 : Nat → Int) (a2 : Nat → Int) (a3 : Nat → Int) (a4 : Nat → Int) (a5 : Int) : lnoN → DD (Lf lnoN lnoR)
 | .n0 p0 =>
 .ask (Cm.run Cm.lss p0 (↑a0 : Int))
   (.must (decide (0 ≤ p0))
   (.must (decide (p0 < (↑a0 : Int)))
   (.must (decide (0 + Int.toNat p0 < a0))
   (.ask (Cm.run Cm.eql (a1 (0 + Int.toNat p0)) (-1))
   (.ask (Cm.run Cm.geq (a2 (0 + Int.toNat p0)) 0)
   (.ask (Cm.run Cm.leq (a2 (0 + Int.toNat p0)) 7)
   (.ask (Cm.run Cm.eql (a3 (0 + Int.toNat p0)) (-1))
   (.ask (Cm.run Cm.eql (a4 (0 + Int.toNat p0)) (-1))
   (.ask (Cm.run Cm.eql (a2 (0 + Int.toNat p0)) (-1))
   (.ask (Cm.run Cm.geq (a1 (0 + Int.toNat p0)) 0)
   (.ask (Cm.run Cm.leq (a1 (0 + Int.toNat p0)) (Ar.run Ar.sub IntKind.i64 a5 1))
   (.ask (Cm.run Cm.geq (a3 (0 + Int.toNat p0)) (Ar.run Ar.add IntKind.i64 p0 1))
   (.ask (Cm.run Cm.leq (a3 (0 + Int.toNat p0)) (Ar.run Ar.sub IntKind.i64 ((↑a0 : Int)) 1))
   (.ask (Cm.run Cm.geq (a4 (0 + Int.toNat p0)) (Ar.run Ar.add IntKind.i64 p0 1))
   (.ask (Cm.run Cm.leq (a4 (0 + Int.toNat p0)) (Ar.run Ar.sub IntKind.i64 ((↑a0 : Int)) 1))
   (.leaf (.next (.n0 (Ar.run Ar.add IntKind.i64 p0 1)) []))
   (.leaf (.next (.n0 (Ar.run Ar.add IntKind.i64 p0 1)) [])))
   (.leaf (.next (.n0 (Ar.run Ar.add IntKind.i64 p0 1)) [])))
   (.leaf (.next (.n0 (Ar.run Ar.add IntKind.i64 p0 1)) [])))
   (.leaf (.next (.n0 (Ar.run Ar.add IntKind.i64 p0 1)) [])))
   (.leaf (.next (.n0 (Ar.run Ar.add IntKind.i64 p0 1)) [])))
   (.leaf (.next (.n0 (Ar.run Ar.add IntKind.i64 p0 1)) [])))
   (.leaf (.next (.n0 (Ar.run Ar.add IntKind.i64 p0 1)) [])))
   (.ask (Cm.run Cm.eql (a2 (0 + Int.toNat p0)) (-1))
   (.ask (Cm.run Cm.geq (a1 (0 + Int.toNat p0)) 0)
   (.ask (Cm.run Cm.leq (a1 (0 + Int.toNat p0)) (Ar.run Ar.sub IntKind.i64 a5 1))
   (.ask (Cm.run Cm.geq (a3 (0 + Int.toNat p0)) (Ar.run Ar.add IntKind.i64 p0 1))
   (.ask (Cm.run Cm.leq (a3 (0 + Int.toNat p0)) (Ar.run Ar.sub IntKind.i64 ((↑a0 : Int)) 1))
   (.ask (Cm.run Cm.geq (a4 (0 + Int.toNat p0)) (Ar.run Ar.add IntKind.i64 p0 1))
   (.ask (Cm.run Cm.leq (a4 (0 + Int.toNat p0)) (Ar.run Ar.sub IntKind.i64 ((↑a0 : Int)) 1))
   (.leaf (.next (.n0 (Ar.run Ar.add IntKind.i64 p0 1)) []))
   (.leaf (.done 4 [])))
   (.leaf (.done 4 [])))
   (.leaf (.done 4 [])))
   (.leaf (.done 4 [])))
   (.leaf (.done 4 [])))
   (.leaf (.done 4 [])))
   (.leaf (.done 4 []))))
   (.ask (Cm.run Cm.eql (a2 (0 + Int.toNat p0)) (-1))
   (.ask (Cm.run Cm.geq (a1 (0 + Int.toNat p0)) 0)
   (.ask (Cm.run Cm.leq (a1 (0 + Int.toNat p0)) (Ar.run Ar.sub IntKind.i64 a5 1))
   (.ask (Cm.run Cm.geq (a3 (0 + Int.toNat p0)) (Ar.run Ar.add IntKind.i64 p0 1))
   (.ask (Cm.run Cm.leq (a3 (0 + Int.toNat p0)) (Ar.run Ar.sub IntKind.i64 ((↑a0 : Int)) 1))
   (.ask (Cm.run Cm.geq (a4 (0 + Int.toNat p0)) (Ar.run Ar.add IntKind.i64 p0 1))
   (.ask (Cm.run Cm.leq (a4 (0 + Int.toNat p0)) (Ar.run Ar.sub IntKind.i64 ((↑a0 : Int)) 1))
   (.leaf (.next (.n0 (Ar.run Ar.add IntKind.i64 p0 1)) []))
   (.leaf (.done 4 [])))
   (.leaf (.done 4 [])))
   (.leaf (.done 4 [])))
   (.leaf (.done 4 [])))
   (.leaf (.done 4 [])))
   (.leaf (.done 4 [])))
   (.leaf (.done 4 []))))
   (.ask (Cm.run Cm.eql (a2 (0 + Int.toNat p0)) (-1))
   (.ask (Cm.run Cm.geq (a1 (0 + Int.toNat p0)) 0)
   (.ask (Cm.run Cm.leq (a1 (0 + Int.toNat p0)) (Ar.run Ar.sub IntKind.i64 a5 1))
   (.ask (Cm.run Cm.geq (a3 (0 + Int.toNat p0)) (Ar.run Ar.add IntKind.i64 p0 1))
   (.ask (Cm.run Cm.leq (a3 (0 + Int.toNat p0)) (Ar.run Ar.sub IntKind.i64 ((↑a0 : Int)) 1))
   (.ask (Cm.run Cm.geq (a4 (0 + Int.toNat p0)) (Ar.run Ar.add IntKind.i64 p0 1))
   (.ask (Cm.run Cm.leq (a4 (0 + Int.toNat p0)) (Ar.run Ar.sub IntKind.i64 ((↑a0 : Int)) 1))
   (.leaf (.next (.n0 (Ar.run Ar.add IntKind.i64 p0 1)) []))
   (.leaf (.done 4 [])))
   (.leaf (.done 4 [])))
   (.leaf (.done 4 [])))
   (.leaf (.done 4 [])))
   (.leaf (.done 4 [])))
   (.leaf (.done 4 [])))
   (.leaf (.done 4 []))))
   (.ask (Cm.run Cm.eql (a2 (0 + Int.toNat p0)) (-1))
   (.ask (Cm.run Cm.geq (a1 (0 + Int.toNat p0)) 0)
   (.ask (Cm.run Cm.leq (a1 (0 + Int.toNat p0)) (Ar.run Ar.sub IntKind.i64 a5 1))
   (.ask (Cm.run Cm.geq (a3 (0 + Int.toNat p0)) (Ar.run Ar.add IntKind.i64 p0 1))
   (.ask (Cm.run Cm.leq (a3 (0 + Int.toNat p0)) (Ar.run Ar.sub IntKind.i64 ((↑a0 : Int)) 1))
   (.ask (Cm.run Cm.geq (a4 (0 + Int.toNat p0)) (Ar.run Ar.add IntKind.i64 p0 1))
   (.ask (Cm.run Cm.leq (a4 (0 + Int.toNat p0)) (Ar.run Ar.sub IntKind.i64 ((↑a0 : Int)) 1))
   (.leaf (.next (.n0 (Ar.run Ar.add IntKind.i64 p0 1)) []))
   (.leaf (.done 4 [])))
   (.leaf (.done 4 [])))
   (.leaf (.done 4 [])))
   (.leaf (.done 4 [])))
   (.leaf (.done 4 [])))
   (.leaf (.done 4 [])))
   (.leaf (.done 4 []))))
   (.ask (Cm.run Cm.eql (a2 (0 + Int.toNat p0)) (-1))
   (.ask (Cm.run Cm.geq (a1 (0 + Int.toNat p0)) 0)
   (.ask (Cm.run Cm.leq (a1 (0 + Int.toNat p0)) (Ar.run Ar.sub IntKind.i64 a5 1))
   (.ask (Cm.run Cm.geq (a3 (0 + Int.toNat p0)) (Ar.run Ar.add IntKind.i64 p0 1))
   (.ask (Cm.run Cm.leq (a3 (0 + Int.toNat p0)) (Ar.run Ar.sub IntKind.i64 ((↑a0 : Int)) 1))
   (.ask (Cm.run Cm.geq (a4 (0 + Int.toNat p0)) (Ar.run Ar.add IntKind.i64 p0 1))
   (.ask (Cm.run Cm.leq (a4 (0 + Int.toNat p0)) (Ar.run Ar.sub IntKind.i64 ((↑a0 : Int)) 1))
   (.leaf (.next (.n0 (Ar.run Ar.add IntKind.i64 p0 1)) []))
   (.leaf (.done 4 [])))
   (.leaf (.done 4 [])))
   (.leaf (.done 4 [])))
   (.leaf (.done 4 [])))
   (.leaf (.done 4 [])))
   (.leaf (.done 4 [])))
   (.leaf (.done 4 [])))))))
   (.leaf (.done 0 []))

noncomputable def lnoA (a0 : Nat) (a1 : Nat → Int) (a2 : Nat → Int) (a3 : Nat → Int) (a4 : Nat → Int) (a5 : Int) : AF lnoN lnoR where
  code := lnoCode
  base := 1
  nt := 83
  m := 400
  un := []
  W := []
  h0 := [(0, ⟨.arg a0 4 (fun i => [.int .i64 (.x (a1 i)), .int .i64 (.x (a2 i)), .int .i64 (.x (a3 i)), .int .i64 (.x (a4 i))]) (fun _ => ⟨rfl, rfl⟩), 4, true, none⟩)]
  args := [.sla 0 4 0 a0, .int .i64 (.x a5)]
  res := (Tryd.f6).results.toList
  path := fun a => match a with
   | .n0 p0 => [1, 1, 1, 0, 1, 0]
  pd := fun a => match a with
   | .n0 p0 => ⟨[(0, .sla 0 4 0 a0), (1, .int .i64 (.x a5)), (5, .int .i64 (.x p0))], [], 1, []⟩
  D0 := lnoD0 a0 a1 a2 a3 a4 a5
  D := lnoD a0 a1 a2 a3 a4 a5
  rc := (fun v => .int .i64 (.x v))
  rh := (fun v => [])
  rn := (fun v => 1)
  rx := (fun v => [])
  rgo := (fun _ => none)


theorem lnostart (a0 : Nat) (a1 : Nat → Int) (a2 : Nat → Int) (a3 : Nat → Int) (a4 : Nat → Int) (a5 : Int) : AF.edgeOk (lnoA a0 a1 a2 a3 a4 a5) (ctxOf Tryd.prog memo0) (lnoD0 a0 a1 a2 a3 a4 a5) (AF.run0 (lnoA a0 a1 a2 a3 a4 a5) (ctxOf Tryd.prog memo0)) := by unfold AF.edgeOk; kernel_rfl

theorem lnonode0 (a0 : Nat) (a1 : Nat → Int) (a2 : Nat → Int) (a3 : Nat → Int) (a4 : Nat → Int) (a5 : Int) (p0 : Int) : AF.edgeOk (lnoA a0 a1 a2 a3 a4 a5) (ctxOf Tryd.prog memo0) (lnoD a0 a1 a2 a3 a4 a5 (.n0 p0)) (AF.runN (lnoA a0 a1 a2 a3 a4 a5) (ctxOf Tryd.prog memo0) (.n0 p0)) := by unfold AF.edgeOk; kernel_rfl

theorem lnook (a0 : Nat) (a1 : Nat → Int) (a2 : Nat → Int) (a3 : Nat → Int) (a4 : Nat → Int) (a5 : Int) : (lnoA a0 a1 a2 a3 a4 a5).Ok Tryd.prog (ctxOf Tryd.prog memo0) where
  regs := by kernel_rfl
  h0 := by kernel_rfl
  start := lnostart a0 a1 a2 a3 a4 a5
  node := fun a _ => match a with
   | .n0 p0 => lnonode0 a0 a1 a2 a3 a4 a5 p0
  pd := fun a => match a with
   | .n0 p0 => ⟨(fa_cons rfl (fa_cons rfl (fa_cons rfl fa_nil))), fa_nil, fa_nil, rfl⟩
  le := fun a => match a with
   | .n0 p0 => Nat.le_of_ble_eq_true rfl
  rd := fun v => ⟨⟨fa_nil, fa_nil, fa_nil, rfl⟩, rfl⟩
  wb := rfl


theorem lnohR {ρ : Env} (a0 : Nat) (a1 : Nat → Int) (a2 : Nat → Int) (a3 : Nat → Int) (a4 : Nat → Int) (a5 : Int) (hM : MemoOk Tryd.prog (ctxOf Tryd.prog memo0) ρ) : ∀ X a q n D, FxOk ρ X → X.base = (lnoA a0 a1 a2 a3 a4 a5).base → X.nt = (lnoA a0 a1 a2 a3 a4 a5).nt → X.W = (lnoA a0 a1 a2 a3 a4 a5).W → (lnoA a0 a1 a2 a3 a4 a5).rgo a = some q → q n = some D → (lnoA a0 a1 a2 a3 a4 a5).RangeOk Tryd.prog ρ X a D := AF.noRange rfl

theorem lnoctr {ρ : Env} (a0 : Nat) (a1 : Nat → Int) (a2 : Nat → Int) (a3 : Nat → Int) (a4 : Nat → Int) (a5 : Int) {n : Nat} {v : lnoR} (hM : MemoOk Tryd.prog (ctxOf Tryd.prog memo0) ρ) (hv : (lnoA a0 a1 a2 a3 a4 a5).run n = some v) :
    Ctr Tryd.prog ρ 6 (lnoA a0 a1 a2 a3 a4 a5).args (lnoA a0 a1 a2 a3 a4 a5).H0 (lnoA a0 a1 a2 a3 a4 a5).base (lnoA a0 a1 a2 a3 a4 a5).W ((lnoA a0 a1 a2 a3 a4 a5).rc v) (putH (lnoA a0 a1 a2 a3 a4 a5).H0 ((lnoA a0 a1 a2 a3 a4 a5).rh v ++ (lnoA a0 a1 a2 a3 a4 a5).rx v)) ((lnoA a0 a1 a2 a3 a4 a5).rn v) :=
  AF.ctr try_ok hM (lnook a0 a1 a2 a3 a4 a5) (fn := Tryd.f6) Tryd.func6 rfl rfl (Nat.le_of_ble_eq_true rfl) rfl (lnohR a0 a1 a2 a3 a4 a5 hM) hv


theorem lnomem {ρ : Env} : MemoOk Tryd.prog (ctxOf Tryd.prog memo0) ρ := memo0_ok


abbrev lnoP : List AQ := [.rows [some .i64, some .i64, some .i64, some .i64], .int .i64]

noncomputable def lnoF (v : AW) : AF lnoN lnoR := lnoA (v.t.getD 0 .none).n ((v.t.getD 0 .none).c 0) ((v.t.getD 0 .none).c 1) ((v.t.getD 0 .none).c 2) ((v.t.getD 0 .none).c 3) (v.i.getD 0 0)

noncomputable def lnoW : lnoR → CV := fun v => .int .i64 (.x v)
noncomputable def lnoH : lnoR → List (Nat × Blk) := fun v => []



instance : Inhabited lnoR := ⟨0⟩
theorem lnoknown {ρ : Env} (hM : MemoOk Tryd.prog (ctxOf Tryd.prog memo0) ρ) : KnownS Tryd.prog ρ 6 lnoP lnoF lnoW lnoH 1 where
  fn := ⟨Tryd.f6, Tryd.func6, rfl⟩
  le := Nat.le_of_ble_eq_true rfl
  full := fun r => rfl
  rg := fun r => rfl
  hg := fun r => fa_nil
  ctr := fun v n r h => lnoctr (v.t.getD 0 .none).n ((v.t.getD 0 .none).c 0) ((v.t.getD 0 .none).c 1) ((v.t.getD 0 .none).c 2) ((v.t.getD 0 .none).c 3) (v.i.getD 0 0) hM h

end Go.Proofs.YtbnnackoakhmdaaDoor.Cx

/- lot.isTree and acmeref11.Nodes say of a tree's nodes what the document does. -/
namespace Go.Proofs.YtbnnackoakhmdaaDoor.Cx
set_option linter.unusedVariables false
set_option linter.unusedSimpArgs false
set_option maxRecDepth 100000
set_option maxHeartbeats 4000000
open Go Go.RowKit

/-- A node at a place i of n, where s gauges have said something: a leaf, or an inner one that goes on to later ones. -/
def NOK (n s i G K N Y : Int) : Prop := (G = -1 ∧ 0 ≤ K ∧ K ≤ 7 ∧ N = -1 ∧ Y = -1) ∨ (K = -1 ∧ 0 ≤ G ∧ G ≤ s - 1 ∧ i + 1 ≤ N ∧ N ≤ n - 1 ∧ i + 1 ≤ Y ∧ Y ≤ n - 1)

def nodeOk (n s : Int) (g k no ye : Nat → Int) (i : Nat) : Prop := NOK n s i (g i) (k i) (no i) (ye i)

section
variable {a0 : Nat} {a1 a2 a3 a4 : Nat → Int} {a5 : Int}

theorem lis_val (hn : a0 ≤ 10000) (hs : 0 ≤ a5 ∧ a5 ≤ 10000) : AF.fin (lisA a0 a1 a2 a3 a4 a5) = true ∧ (AF.val (lisA a0 a1 a2 a3 a4 a5) = true ↔ ∀ i : Nat, (i : Int) < a0 → nodeOk a0 a5 a1 a2 a3 a4 i) := by
  refine AF.val_sat (E := fun v => v = true ↔ ∀ i : Nat, (i : Int) < a0 → nodeOk a0 a5 a1 a2 a3 a4 i)
    (Inv := fun b => match b with | .n0 p => 0 ≤ p ∧ p ≤ a0 ∧ ∀ i : Nat, (i : Int) < p → nodeOk a0 a5 a1 a2 a3 a4 i)
    (fun b => match b with | .n0 p => (a0 - p).toNat) (fun _ => rfl) (fun a hI => ?_) ?_
  rotate_left
  · show 0 ≤ (0 : Int) ∧ (0 : Int) ≤ a0 ∧ ∀ i : Nat, (i : Int) < 0 → nodeOk a0 a5 a1 a2 a3 a4 i
    exact ⟨by omega, by omega, fun i hi => by omega⟩
  cases a with
  | n0 p =>
    obtain ⟨h0, h1, h2⟩ := hI
    refine DD.sat_mono (I := fun b => b = .n0 (p + 1) ∧ nodeOk a0 a5 a1 a2 a3 a4 p.toNat ∧ p < a0) (E := fun v => (v = false ∧ p < a0 ∧ ¬ nodeOk a0 a5 a1 a2 a3 a4 p.toNat) ∨ (v = true ∧ (a0 : Int) ≤ p)) ?_ ?_ _ ?_
    · rintro _ ⟨rfl, g1, g2⟩
      exact ⟨⟨by omega, by omega, all_next h0 h2 g1⟩, by show (a0 - (p + 1)).toNat < (a0 - p).toNat; omega⟩
    · rintro v (⟨rfl, g1, g2⟩ | ⟨rfl, g1⟩)
      · exact ⟨fun h => (by cases h), fun h => absurd (h p.toNat (by omega)) g2⟩
      · exact ⟨fun _ i hi => h2 i (by omega), fun _ => rfl⟩
    · show DD.sat _ _ (lisD a0 a1 a2 a3 a4 a5 (.n0 p))
      unfold lisD nodeOk NOK
      have e2 : Ar.run .sub .i64 a5 1 = a5 - 1 := arSub (by omega)
      have e3 : Ar.run .sub .i64 (a0 : Int) 1 = a0 - 1 := arSub (by omega)
      have e1 : Ar.run .add .i64 p 1 = p + 1 := arAdd (by omega)
      have e4 : ((p.toNat : Nat) : Int) = p := Int.toNat_of_nonneg h0
      simp only [DD.sat, Nat.zero_add, e1, e2, e3, e4, cmLss, cmLssF, cmGtr, cmGtrF, cmEql, cmEqlF, decide_eq_true_eq, true_and, and_true, reduceCtorEq, false_and, or_false, false_or]
      generalize a1 p.toNat = G; generalize a2 p.toNat = K; generalize a3 p.toNat = N; generalize a4 p.toNat = Y
      clear h2 e1 e2 e3 e4
      repeat' (first | intro _ | apply And.intro)
      all_goals omega

theorem lno_val (hn : a0 ≤ 10000) (hs : 0 ≤ a5 ∧ a5 ≤ 10000) : AF.fin (lnoA a0 a1 a2 a3 a4 a5) = true ∧ ((a0 > 511 ∨ a5 > 10) ∧ AF.val (lnoA a0 a1 a2 a3 a4 a5) = 5 ∨ a0 ≤ 511 ∧ a5 ≤ 10 ∧ (a0 = 0 ∧ AF.val (lnoA a0 a1 a2 a3 a4 a5) = 2 ∨ 0 < a0 ∧ ((∀ i : Nat, (i : Int) < a0 → nodeOk a0 a5 a1 a2 a3 a4 i) ∧ AF.val (lnoA a0 a1 a2 a3 a4 a5) = 0 ∨ ¬ (∀ i : Nat, (i : Int) < a0 → nodeOk a0 a5 a1 a2 a3 a4 i) ∧ AF.val (lnoA a0 a1 a2 a3 a4 a5) = 4))) := by
  refine AF.val_sat (E := fun v => (a0 > 511 ∨ a5 > 10) ∧ v = 5 ∨ a0 ≤ 511 ∧ a5 ≤ 10 ∧ (a0 = 0 ∧ v = 2 ∨ 0 < a0 ∧ ((∀ i : Nat, (i : Int) < a0 → nodeOk a0 a5 a1 a2 a3 a4 i) ∧ v = 0 ∨ ¬ (∀ i : Nat, (i : Int) < a0 → nodeOk a0 a5 a1 a2 a3 a4 i) ∧ v = 4)))
    (Inv := fun b => match b with | .n0 p => 0 < a0 ∧ a0 ≤ 511 ∧ a5 ≤ 10 ∧ 0 ≤ p ∧ p ≤ a0 ∧ ∀ i : Nat, (i : Int) < p → nodeOk a0 a5 a1 a2 a3 a4 i)
    (fun b => match b with | .n0 p => (a0 - p).toNat) (fun _ => rfl) (fun a hI => ?_) ?_
  · cases a with
    | n0 p =>
      obtain ⟨q0, q1, q2, h0, h1, h2⟩ := hI
      refine DD.sat_mono (I := fun b => b = .n0 (p + 1) ∧ nodeOk a0 a5 a1 a2 a3 a4 p.toNat ∧ p < a0) (E := fun v => (v = 4 ∧ p < a0 ∧ ¬ nodeOk a0 a5 a1 a2 a3 a4 p.toNat) ∨ (v = 0 ∧ (a0 : Int) ≤ p)) ?_ ?_ _ ?_
      · rintro _ ⟨rfl, g1, g2⟩
        exact ⟨⟨q0, q1, q2, by omega, by omega, all_next h0 h2 g1⟩, by show (a0 - (p + 1)).toNat < (a0 - p).toNat; omega⟩
      · rintro v (⟨rfl, g1, g2⟩ | ⟨rfl, g1⟩)
        · exact .inr ⟨q1, q2, .inr ⟨q0, .inr ⟨fun h => absurd (h p.toNat (by omega)) g2, rfl⟩⟩⟩
        · exact .inr ⟨q1, q2, .inr ⟨q0, .inl ⟨fun i hi => h2 i (by omega), rfl⟩⟩⟩
      · show DD.sat _ _ (lnoD a0 a1 a2 a3 a4 a5 (.n0 p))
        unfold lnoD nodeOk NOK
        have e2 : Ar.run .sub .i64 a5 1 = a5 - 1 := arSub (by omega)
        have e3 : Ar.run .sub .i64 (a0 : Int) 1 = a0 - 1 := arSub (by omega)
        have e1 : Ar.run .add .i64 p 1 = p + 1 := arAdd (by omega)
        have e4 : ((p.toNat : Nat) : Int) = p := Int.toNat_of_nonneg h0
        simp only [DD.sat, Nat.zero_add, e1, e2, e3, e4, cmLss, cmLssF, cmGtr, cmGtrF, cmEql, cmEqlF, cmGeq, cmGeqF, cmLeq, cmLeqF, decide_eq_true_eq, true_and, and_true, reduceCtorEq, false_and, or_false, false_or, show ((4 : Int) = 0) = False by decide, show ((0 : Int) = 4) = False by decide]
        generalize a1 p.toNat = G; generalize a2 p.toNat = K; generalize a3 p.toNat = N; generalize a4 p.toNat = Y
        clear h2 e1 e2 e3 e4
        repeat' (first | intro _ | apply And.intro)
        all_goals omega
  · show DD.sat _ _ (lnoD0 a0 a1 a2 a3 a4 a5)
    unfold lnoD0
    simp only [DD.sat, cmGtr, cmGtrF, cmEql, cmEqlF]
    refine ⟨fun h => .inl ⟨by omega, trivial⟩, fun h => ⟨fun h' => .inl ⟨by omega, trivial⟩, fun h' => ⟨fun h2 => .inr ⟨by omega, by omega, .inl ⟨by omega, trivial⟩⟩, fun h2 => ⟨by omega, by omega, by omega, by omega, by omega, fun i hi => by omega⟩⟩⟩⟩
end
end Go.Proofs.YtbnnackoakhmdaaDoor.Cx

/- FUNCTIONS THAT CALL THEMSELVES: an automaton that stands for the calls with a smaller measure; what the body's automaton yields with it, the function yields. -/
namespace Go.Proofs.YtbnnackoakhmdaaDoor.Cx
set_option linter.unusedSimpArgs false
set_option linter.unusedVariables false
open Go Go.RowKit

/-- An automaton without heads: it yields a value where a test holds. -/
noncomputable def synA {R : Type} (ok : Bool) (r : R) (args : List CV) (rc : R → CV) : AF Empty R where
  code := .ret
  base := 0
  nt := 0
  m := 0
  un := []
  W := []
  h0 := []
  args := args
  res := []
  path := fun a => a.elim
  pd := fun a => a.elim
  D0 := .must ok (.leaf (.done r []))
  D := fun a => a.elim
  rc := rc
  rh := fun _ => []
  rn := fun _ => 0
  rx := fun _ => []
  rgo := fun _ => none

theorem synA_run {R : Type} {ok : Bool} {r v : R} {args : List CV} {rc : R → CV} {n : Nat} (h : (synA ok r args rc).run n = some v) : ok = true ∧ v = r := by
  have hD : (synA ok r args rc).D0 = .must ok (.leaf (.done r [])) := rfl
  cases ok with
  | false => simp [AF.run, hD, DD.eval] at h
  | true =>
    simp [AF.run, hD, DD.eval] at h
    exact ⟨rfl, h.symm⟩
theorem synA_val {R : Type} [Inhabited R] {r : R} {args : List CV} {rc : R → CV} : AF.fin (synA true r args rc) = true ∧ AF.val (synA true r args rc) = r := by
  have hD : (synA true r args rc).D0 = .must true (.leaf (.done r [])) := rfl
  have hr : (synA true r args rc).run 0 = some r := by simp [AF.run, hD, DD.eval]
  exact AF.val_of (AF.mono_none fun _ => rfl) hr

section
variable {P : Program} {ρ : Env} {R : Type} [Inhabited R]

/-- Calls with a measure below m. -/
noncomputable def recS' (ps : List AQ) (pre : AW → Prop) (μ : AW → Nat) (F : AW → R) (rw' : R → CV) (m : Nat) (v : AW) : AF Empty R :=
  synA (@decide (pre v ∧ μ v < m) (Classical.propDecidable _)) (F v) (AQ.puts v ps 0 0 0) rw'

theorem recS_val {ps : List AQ} {pre : AW → Prop} {μ : AW → Nat} {F : AW → R} {rw' : R → CV} {m : Nat} {v : AW} (h : pre v ∧ μ v < m) : AF.fin (recS' ps pre μ F rw' m v) = true ∧ AF.val (recS' ps pre μ F rw' m v) = F v := by
  unfold recS'
  rw [show @decide (pre v ∧ μ v < m) (Classical.propDecidable _) = true from @decide_eq_true _ (Classical.propDecidable _) h]
  exact synA_val

omit [Inhabited R] in
/-- With slices: by induction on the measure. -/
theorem recS_known {g : Nat} {ps : List AQ} {pre : AW → Prop} {μ : AW → Nat} {F : AW → R} {rw' : R → CV} {hw : R → List (Nat × Blk)} {nw : Nat} (fn : ∃ fn, P.funcs[g]? = some fn ∧ fn.body.isSome = true) (le : (AQ.ksss ps).length ≤ nw)
    (full : ∀ r, (hw r).map Prod.fst = List.range' (AQ.ksss ps).length (nw - (AQ.ksss ps).length)) (rg : ∀ r, (rw' r).rng (AQ.ksss ps).length nw = true) (hg : ∀ r, ∀ x ∈ hw r, x.2.body.Rg (AQ.ksss ps).length nw ∧ x.2.ext = none)
    (step : ∀ m, KnownS P ρ g ps (recS' ps pre μ F rw' m) rw' hw nw → ∀ v, pre v → μ v = m → Ctr P ρ g (AQ.puts v ps 0 0 0) (mkH (AQ.hp v (AQ.ksss ps) 0)) (AQ.ksss ps).length [] (rw' (F v)) (putH (mkH (AQ.hp v (AQ.ksss ps) 0)) (hw (F v))) nw) :
    ∀ m, KnownS P ρ g ps (recS' ps pre μ F rw' m) rw' hw nw := by
  intro m
  induction m using Nat.strongRecOn with
  | _ m ih =>
    refine ⟨fn, le, full, rg, hg, fun v n r h => ?_⟩
    obtain ⟨h1, rfl⟩ := synA_run h
    obtain ⟨h2, h3⟩ := @of_decide_eq_true _ (Classical.propDecidable _) h1
    exact step (μ v) (ih _ h3) v h2 rfl

noncomputable def recA' (ps : List AP) (pre : AV → Prop) (μ : AV → Nat) (F : AV → R) (rc : R → CV) (m : Nat) (v : AV) : AF Empty R :=
  synA (@decide (pre v ∧ μ v < m) (Classical.propDecidable _)) (F v) (AP.puts v ps 0 0) rc

theorem recA_val {ps : List AP} {pre : AV → Prop} {μ : AV → Nat} {F : AV → R} {rc : R → CV} {m : Nat} {v : AV} (h : pre v ∧ μ v < m) : AF.fin (recA' ps pre μ F rc m v) = true ∧ AF.val (recA' ps pre μ F rc m v) = F v := by
  unfold recA'
  rw [show @decide (pre v ∧ μ v < m) (Classical.propDecidable _) = true from @decide_eq_true _ (Classical.propDecidable _) h]
  exact synA_val

omit [Inhabited R] in
/-- Without slices. -/
theorem recA_known {g : Nat} {ps : List AP} {pre : AV → Prop} {μ : AV → Nat} {F : AV → R} {rc : R → CV} (fn : ∃ fn, P.funcs[g]? = some fn ∧ fn.body.isSome = true) (hp : ∀ r, (rc r).plain = true)
    (step : ∀ m, KnownA P ρ g ps (recA' ps pre μ F rc m) → ∀ v, pre v → μ v = m → Ctr P ρ g (AP.puts v ps 0 0) .nil 0 [] (rc (F v)) .nil 0) : ∀ m, KnownA P ρ g ps (recA' ps pre μ F rc m) := by
  intro m
  induction m using Nat.strongRecOn with
  | _ m ih =>
    refine ⟨fn, fun v => rfl, fun v r => hp r, fun v n r h => ?_⟩
    obtain ⟨h1, rfl⟩ := synA_run h
    obtain ⟨h2, h3⟩ := @of_decide_eq_true _ (Classical.propDecidable _) h1
    exact step (μ v) (ih _ h3) v h2 rfl
end
end Go.Proofs.YtbnnackoakhmdaaDoor.Cx

/- acmeref11.Walk calls itself: the shapes of its arguments and of what it yields. -/
namespace Go.Proofs.YtbnnackoakhmdaaDoor.Cx
set_option linter.unusedVariables false
set_option linter.unusedSimpArgs false
open Go Go.RowKit
abbrev rwxP : List AQ := [.rows [some .i64, some .i64, some .i64, some .i64], .rows [none], .int .i64]
noncomputable def rwxW : Int × Int → CV := fun v => .tup [.int .i64 (.x (Prod.fst v)), .int .i64 (.x (Prod.snd v))]
noncomputable def rwxH : Int × Int → List (Nat × Blk) := fun v => []
abbrev RwxT := Nat → (Nat → Int) → (Nat → Int) → (Nat → Int) → (Nat → Int) → Nat → (Nat → Bool) → Int → AF Empty (Int × Int)
noncomputable def rwxF (X : RwxT) (v : AW) : AF Empty (Int × Int) := X (v.t.getD 0 .none).n ((v.t.getD 0 .none).c 0) ((v.t.getD 0 .none).c 1) ((v.t.getD 0 .none).c 2) ((v.t.getD 0 .none).c 3) (v.t.getD 1 .none).n ((v.t.getD 1 .none).g 0) (v.i.getD 0 0)
end Go.Proofs.YtbnnackoakhmdaaDoor.Cx

/- acme/acmeref11.Walk as an automaton. Made by tools/cxauto.py. -/
namespace Go.Proofs.YtbnnackoakhmdaaDoor.Cx
set_option linter.unusedVariables false
set_option linter.unusedSimpArgs false
set_option maxRecDepth 100000
open Go Go.Proofs Go.RowKit

noncomputable abbrev lrwCode : Code := funcCode Tryd.f7


abbrev lrwN := Empty

abbrev lrwR := Int × Int

noncomputable def lrwD0 (Y0 : RwxT) (a0 : Nat) (a1 : Nat → Int) (a2 : Nat → Int) (a3 : Nat → Int) (a4 : Nat → Int) (a5 : Nat) (a6 : Nat → Bool) (a7 : Int) : DD (Lf lrwN lrwR) :=
 .must (decide (0 ≤ a7))
   (.must (decide (a7 < (↑a0 : Int)))
   (.must (decide (0 + Int.toNat a7 < a0))
   (.ask (Cm.run Cm.eql (a1 (0 + Int.toNat a7)) (-1))
   (.leaf (.done (a2 (0 + Int.toNat a7), 0) []))
   (.must (decide (0 ≤ a1 (0 + Int.toNat a7)))
   (.must (decide (a1 (0 + Int.toNat a7) < (↑a5 : Int)))
   (.must (decide (0 + Int.toNat (a1 (0 + Int.toNat a7)) < a5))
   (.ask (a6 (0 + Int.toNat (a1 (0 + Int.toNat a7))))
   (.must (decide (0 + a0 ≤ a0))
   (.must (ShapeOk [some IntKind.i64, some IntKind.i64, some IntKind.i64, some IntKind.i64] (tabOf a0 fun i => [CV.int IntKind.i64 (IE.x (a1 (0 + i))), CV.int IntKind.i64 (IE.x (a2 (0 + i))), CV.int IntKind.i64 (IE.x (a3 (0 + i))), CV.int IntKind.i64 (IE.x (a4 (0 + i)))]) fun i => [CV.int IntKind.i64 (IE.x (a1 (0 + i))), CV.int IntKind.i64 (IE.x (a2 (0 + i))), CV.int IntKind.i64 (IE.x (a3 (0 + i))), CV.int IntKind.i64 (IE.x (a4 (0 + i)))])
   (.must (decide (0 + a5 ≤ a5))
   (.must (ShapeOk [none] (tabOf a5 fun i => [CV.bool (BE.x (a6 (0 + i)))]) fun i => [CV.bool (BE.x (a6 (0 + i)))])
   (.must (AF.fin (Y0 a0 (fun i => a1 (0 + i)) (fun i => a2 (0 + i)) (fun i => a3 (0 + i)) (fun i => a4 (0 + i)) a5 (fun i => a6 (0 + i)) (a4 (0 + Int.toNat a7))))
   (.leaf (.done (Prod.fst (AF.val (Y0 a0 (fun i => a1 (0 + i)) (fun i => a2 (0 + i)) (fun i => a3 (0 + i)) (fun i => a4 (0 + i)) a5 (fun i => a6 (0 + i)) (a4 (0 + Int.toNat a7)))), Ar.run Ar.add IntKind.i64 (Prod.snd (AF.val (Y0 a0 (fun i => a1 (0 + i)) (fun i => a2 (0 + i)) (fun i => a3 (0 + i)) (fun i => a4 (0 + i)) a5 (fun i => a6 (0 + i)) (a4 (0 + Int.toNat a7))))) 1) [])))))))
   (.must (decide (0 + a0 ≤ a0))
   (.must (ShapeOk [some IntKind.i64, some IntKind.i64, some IntKind.i64, some IntKind.i64] (tabOf a0 fun i => [CV.int IntKind.i64 (IE.x (a1 (0 + i))), CV.int IntKind.i64 (IE.x (a2 (0 + i))), CV.int IntKind.i64 (IE.x (a3 (0 + i))), CV.int IntKind.i64 (IE.x (a4 (0 + i)))]) fun i => [CV.int IntKind.i64 (IE.x (a1 (0 + i))), CV.int IntKind.i64 (IE.x (a2 (0 + i))), CV.int IntKind.i64 (IE.x (a3 (0 + i))), CV.int IntKind.i64 (IE.x (a4 (0 + i)))])
   (.must (decide (0 + a5 ≤ a5))
   (.must (ShapeOk [none] (tabOf a5 fun i => [CV.bool (BE.x (a6 (0 + i)))]) fun i => [CV.bool (BE.x (a6 (0 + i)))])
   (.must (AF.fin (Y0 a0 (fun i => a1 (0 + i)) (fun i => a2 (0 + i)) (fun i => a3 (0 + i)) (fun i => a4 (0 + i)) a5 (fun i => a6 (0 + i)) (a3 (0 + Int.toNat a7))))
   (.leaf (.done (Prod.fst (AF.val (Y0 a0 (fun i => a1 (0 + i)) (fun i => a2 (0 + i)) (fun i => a3 (0 + i)) (fun i => a4 (0 + i)) a5 (fun i => a6 (0 + i)) (a3 (0 + Int.toNat a7)))), Ar.run Ar.add IntKind.i64 (Prod.snd (AF.val (Y0 a0 (fun i => a1 (0 + i)) (fun i => a2 (0 + i)) (fun i => a3 (0 + i)) (fun i => a4 (0 + i)) a5 (fun i => a6 (0 + i)) (a3 (0 + Int.toNat a7))))) 1) []))))))))))))))

noncomputable def lrwD (Y0 : RwxT) (a0 : Nat) (a1 : Nat → Int) (a2 : Nat → Int) (a3 : Nat → Int) (a4 : Nat → Int) (a5 : Nat) (a6 : Nat → Bool) (a7 : Int) : lrwN → DD (Lf lrwN lrwR) := fun a => nomatch a

noncomputable def lrwA (Y0 : RwxT) (a0 : Nat) (a1 : Nat → Int) (a2 : Nat → Int) (a3 : Nat → Int) (a4 : Nat → Int) (a5 : Nat) (a6 : Nat → Bool) (a7 : Int) : AF lrwN lrwR where
  code := lrwCode
  base := 2
  nt := 40
  m := 400
  un := []
  W := []
  h0 := [(0, ⟨.arg a0 4 (fun i => [.int .i64 (.x (a1 i)), .int .i64 (.x (a2 i)), .int .i64 (.x (a3 i)), .int .i64 (.x (a4 i))]) (fun _ => ⟨rfl, rfl⟩), 4, true, none⟩), (1, ⟨.arg a5 1 (fun i => [.bool (.x (a6 i))]) (fun _ => ⟨rfl, rfl⟩), 1, true, none⟩)]
  args := [.sla 0 4 0 a0, .sla 1 1 0 a5, .int .i64 (.x a7)]
  res := (Tryd.f7).results.toList
  path := fun a => nomatch a
  pd := fun a => nomatch a
  D0 := lrwD0 Y0 a0 a1 a2 a3 a4 a5 a6 a7
  D := lrwD Y0 a0 a1 a2 a3 a4 a5 a6 a7
  rc := (fun v => .tup [.int .i64 (.x v.1), .int .i64 (.x v.2)])
  rh := (fun v => [])
  rn := (fun v => 2)
  rx := (fun v => [])
  rgo := (fun _ => none)


theorem lrwstart (Y0 : RwxT) (a0 : Nat) (a1 : Nat → Int) (a2 : Nat → Int) (a3 : Nat → Int) (a4 : Nat → Int) (a5 : Nat) (a6 : Nat → Bool) (a7 : Int) : AF.edgeOk (lrwA Y0 a0 a1 a2 a3 a4 a5 a6 a7) (ctxOf Tryd.prog memo0) (lrwD0 Y0 a0 a1 a2 a3 a4 a5 a6 a7) (AF.run0 (lrwA Y0 a0 a1 a2 a3 a4 a5 a6 a7) (ctxOf Tryd.prog (memoS 7 rwxP (rwxF Y0) rwxW rwxH 2 memo0))) := by unfold AF.edgeOk; kernel_rfl

theorem lrwok (Y0 : RwxT) (a0 : Nat) (a1 : Nat → Int) (a2 : Nat → Int) (a3 : Nat → Int) (a4 : Nat → Int) (a5 : Nat) (a6 : Nat → Bool) (a7 : Int) : (lrwA Y0 a0 a1 a2 a3 a4 a5 a6 a7).Ok Tryd.prog (ctxOf Tryd.prog (memoS 7 rwxP (rwxF Y0) rwxW rwxH 2 memo0)) where
  regs := by kernel_rfl
  h0 := by kernel_rfl
  start := lrwstart Y0 a0 a1 a2 a3 a4 a5 a6 a7
  node := fun a _ => nomatch a
  pd := fun a => nomatch a
  le := fun a => nomatch a
  rd := fun v => ⟨⟨fa_nil, fa_nil, fa_nil, rfl⟩, rfl⟩
  wb := rfl


theorem lrwhR {ρ : Env} (Y0 : RwxT) (a0 : Nat) (a1 : Nat → Int) (a2 : Nat → Int) (a3 : Nat → Int) (a4 : Nat → Int) (a5 : Nat) (a6 : Nat → Bool) (a7 : Int) (hM : MemoOk Tryd.prog (ctxOf Tryd.prog (memoS 7 rwxP (rwxF Y0) rwxW rwxH 2 memo0)) ρ) : ∀ X a q n D, FxOk ρ X → X.base = (lrwA Y0 a0 a1 a2 a3 a4 a5 a6 a7).base → X.nt = (lrwA Y0 a0 a1 a2 a3 a4 a5 a6 a7).nt → X.W = (lrwA Y0 a0 a1 a2 a3 a4 a5 a6 a7).W → (lrwA Y0 a0 a1 a2 a3 a4 a5 a6 a7).rgo a = some q → q n = some D → (lrwA Y0 a0 a1 a2 a3 a4 a5 a6 a7).RangeOk Tryd.prog ρ X a D := AF.noRange rfl

theorem lrwctr {ρ : Env} (Y0 : RwxT) (a0 : Nat) (a1 : Nat → Int) (a2 : Nat → Int) (a3 : Nat → Int) (a4 : Nat → Int) (a5 : Nat) (a6 : Nat → Bool) (a7 : Int) {n : Nat} {v : lrwR} (hM : MemoOk Tryd.prog (ctxOf Tryd.prog (memoS 7 rwxP (rwxF Y0) rwxW rwxH 2 memo0)) ρ) (hv : (lrwA Y0 a0 a1 a2 a3 a4 a5 a6 a7).run n = some v) :
    Ctr Tryd.prog ρ 7 (lrwA Y0 a0 a1 a2 a3 a4 a5 a6 a7).args (lrwA Y0 a0 a1 a2 a3 a4 a5 a6 a7).H0 (lrwA Y0 a0 a1 a2 a3 a4 a5 a6 a7).base (lrwA Y0 a0 a1 a2 a3 a4 a5 a6 a7).W ((lrwA Y0 a0 a1 a2 a3 a4 a5 a6 a7).rc v) (putH (lrwA Y0 a0 a1 a2 a3 a4 a5 a6 a7).H0 ((lrwA Y0 a0 a1 a2 a3 a4 a5 a6 a7).rh v ++ (lrwA Y0 a0 a1 a2 a3 a4 a5 a6 a7).rx v)) ((lrwA Y0 a0 a1 a2 a3 a4 a5 a6 a7).rn v) :=
  AF.ctr try_ok hM (lrwok Y0 a0 a1 a2 a3 a4 a5 a6 a7) (fn := Tryd.f7) Tryd.func7 rfl rfl (Nat.le_of_ble_eq_true rfl) rfl (lrwhR Y0 a0 a1 a2 a3 a4 a5 a6 a7 hM) hv


abbrev lrwP : List AQ := [.rows [some .i64, some .i64, some .i64, some .i64], .rows [none], .int .i64]

noncomputable def lrwF (Y0 : RwxT) (v : AW) : AF lrwN lrwR := lrwA Y0 (v.t.getD 0 .none).n ((v.t.getD 0 .none).c 0) ((v.t.getD 0 .none).c 1) ((v.t.getD 0 .none).c 2) ((v.t.getD 0 .none).c 3) (v.t.getD 1 .none).n ((v.t.getD 1 .none).g 0) (v.i.getD 0 0)

noncomputable def lrwW : lrwR → CV := fun v => .tup [.int .i64 (.x v.1), .int .i64 (.x v.2)]
noncomputable def lrwH : lrwR → List (Nat × Blk) := fun v => []



instance : Inhabited lrwR := ⟨(0, 0)⟩
theorem lrwknown {ρ : Env} (Y0 : RwxT) (hM : MemoOk Tryd.prog (ctxOf Tryd.prog (memoS 7 rwxP (rwxF Y0) rwxW rwxH 2 memo0)) ρ) : KnownS Tryd.prog ρ 7 lrwP (lrwF Y0) lrwW lrwH 2 where
  fn := ⟨Tryd.f7, Tryd.func7, rfl⟩
  le := Nat.le_of_ble_eq_true rfl
  full := fun r => rfl
  rg := fun r => rfl
  hg := fun r => fa_nil
  ctr := fun v n r h => lrwctr Y0 (v.t.getD 0 .none).n ((v.t.getD 0 .none).c 0) ((v.t.getD 0 .none).c 1) ((v.t.getD 0 .none).c 2) ((v.t.getD 0 .none).c 3) (v.t.getD 1 .none).n ((v.t.getD 1 .none).g 0) (v.i.getD 0 0) hM h

end Go.Proofs.YtbnnackoakhmdaaDoor.Cx

/- acme/lot.Walk as an automaton. Made by tools/cxauto.py. -/
namespace Go.Proofs.YtbnnackoakhmdaaDoor.Cx
set_option linter.unusedVariables false
set_option linter.unusedSimpArgs false
set_option maxRecDepth 100000
open Go Go.Proofs Go.RowKit

noncomputable abbrev lwkCode : Code := funcCode Tryd.f5


inductive lwkN where
  | n0 (p0 : Int) (p1 : Int) (p2 : Int) (p3 : Int) (p4 : Int)

abbrev lwkR := Int × Int × Int

noncomputable def lwkD0 (a0 : Nat) (a1 : Nat → Int) (a2 : Nat → Int) (a3 : Nat → Int) (a4 : Nat → Int) (a5 : Nat) (a6 : Nat → Bool) : DD (Lf lwkN lwkR) :=
 .ask (Cm.run Cm.gtr ((↑a0 : Int)) 511)
   (.leaf (.done (0, 0, 5) []))
   (.ask (Cm.run Cm.gtr ((↑a5 : Int)) 10)
   (.leaf (.done (0, 0, 5) []))
   (.ask (Cm.run Cm.eql ((↑a0 : Int)) 0)
   (.leaf (.done (0, 0, 2) []))
   (.must (decide (0 + a0 ≤ a0))
   (.must (ShapeOk [some IntKind.i64, some IntKind.i64, some IntKind.i64, some IntKind.i64] (tabOf a0 fun i => [CV.int IntKind.i64 (IE.x (a1 (0 + i))), CV.int IntKind.i64 (IE.x (a2 (0 + i))), CV.int IntKind.i64 (IE.x (a3 (0 + i))), CV.int IntKind.i64 (IE.x (a4 (0 + i)))]) fun i => [CV.int IntKind.i64 (IE.x (a1 (0 + i))), CV.int IntKind.i64 (IE.x (a2 (0 + i))), CV.int IntKind.i64 (IE.x (a3 (0 + i))), CV.int IntKind.i64 (IE.x (a4 (0 + i)))])
   (.must (AF.fin (lisA a0 (fun i => a1 (0 + i)) (fun i => a2 (0 + i)) (fun i => a3 (0 + i)) (fun i => a4 (0 + i)) (↑a5 : Int)))
   (.ask (!AF.val (lisA a0 (fun i => a1 (0 + i)) (fun i => a2 (0 + i)) (fun i => a3 (0 + i)) (fun i => a4 (0 + i)) (↑a5 : Int)))
   (.leaf (.done (0, 0, 4) []))
   (.must (true)
   (.must (decide (0 < (↑a0 : Int)))
   (.must (decide (0 + Int.toNat 0 < a0))
   (.leaf (.next (.n0 0 (a1 (0 + Int.toNat 0)) (a2 (0 + Int.toNat 0)) (a3 (0 + Int.toNat 0)) (a4 (0 + Int.toNat 0))) [2])))))))))))

noncomputable def lwkD (a0 : Nat) (a1 : Nat → Int) (a2 : Nat → Int) (a3 : Nat → Int) (a4 : Nat → Int) (a5 : Nat) (a6 : Nat → Bool) : lwkN → DD (Lf lwkN lwkR)
 | .n0 p0 p1 p2 p3 p4 =>
 .ask (Cm.run Cm.eql p2 (-1))
   (.must (decide (0 ≤ p1))
   (.must (decide (p1 < (↑a5 : Int)))
   (.must (decide (0 + Int.toNat p1 < a5))
   (.ask (a6 (0 + Int.toNat p1))
   (.must (decide (0 ≤ p4))
   (.must (decide (p4 < (↑a0 : Int)))
   (.must (decide (0 + Int.toNat p4 < a0))
   (.leaf (.next (.n0 (Ar.run Ar.add IntKind.i64 p0 1) (a1 (0 + Int.toNat p4)) (a2 (0 + Int.toNat p4)) (a3 (0 + Int.toNat p4)) (a4 (0 + Int.toNat p4))) [2])))))
   (.must (decide (0 ≤ p3))
   (.must (decide (p3 < (↑a0 : Int)))
   (.must (decide (0 + Int.toNat p3 < a0))
   (.leaf (.next (.n0 (Ar.run Ar.add IntKind.i64 p0 1) (a1 (0 + Int.toNat p3)) (a2 (0 + Int.toNat p3)) (a3 (0 + Int.toNat p3)) (a4 (0 + Int.toNat p3))) [2])))))))))
   (.leaf (.done (p2, p0, 0) []))

noncomputable def lwkA (a0 : Nat) (a1 : Nat → Int) (a2 : Nat → Int) (a3 : Nat → Int) (a4 : Nat → Int) (a5 : Nat) (a6 : Nat → Bool) : AF lwkN lwkR where
  code := lwkCode
  base := 2
  nt := 49
  m := 400
  un := []
  W := []
  h0 := [(0, ⟨.arg a0 4 (fun i => [.int .i64 (.x (a1 i)), .int .i64 (.x (a2 i)), .int .i64 (.x (a3 i)), .int .i64 (.x (a4 i))]) (fun _ => ⟨rfl, rfl⟩), 4, true, none⟩), (1, ⟨.arg a5 1 (fun i => [.bool (.x (a6 i))]) (fun _ => ⟨rfl, rfl⟩), 1, true, none⟩)]
  args := [.sla 0 4 0 a0, .sla 1 1 0 a5]
  res := (Tryd.f5).results.toList
  path := fun a => match a with
   | .n0 p0 p1 p2 p3 p4 => [1, 1, 1, 1, 1, 0, 0]
  pd := fun a => match a with
   | .n0 p0 p1 p2 p3 p4 => ⟨[(0, .sla 0 4 0 a0), (1, .sla 1 1 0 a5), (5, .int .i64 (.x p0)), (7, .ptr (some (2, 0)))], [(2, ⟨.lit [.int .i64 (.x p1), .int .i64 (.x p2), .int .i64 (.x p3), .int .i64 (.x p4)], 0, true, none⟩)], 3, []⟩
  D0 := lwkD0 a0 a1 a2 a3 a4 a5 a6
  D := lwkD a0 a1 a2 a3 a4 a5 a6
  rc := (fun v => .tup [.int .i64 (.x v.1), .int .i64 (.x v.2.1), .int .i64 (.x v.2.2)])
  rh := (fun v => [])
  rn := (fun v => 2)
  rx := (fun v => [])
  rgo := (fun _ => none)


theorem lwkstart (a0 : Nat) (a1 : Nat → Int) (a2 : Nat → Int) (a3 : Nat → Int) (a4 : Nat → Int) (a5 : Nat) (a6 : Nat → Bool) : AF.edgeOk (lwkA a0 a1 a2 a3 a4 a5 a6) (ctxOf Tryd.prog memo0) (lwkD0 a0 a1 a2 a3 a4 a5 a6) (AF.run0 (lwkA a0 a1 a2 a3 a4 a5 a6) (ctxOf Tryd.prog (memoS 18 lisP lisF lisW lisH 1 memo0))) := by unfold AF.edgeOk; kernel_rfl

theorem lwknode0 (a0 : Nat) (a1 : Nat → Int) (a2 : Nat → Int) (a3 : Nat → Int) (a4 : Nat → Int) (a5 : Nat) (a6 : Nat → Bool) (p0 : Int) (p1 : Int) (p2 : Int) (p3 : Int) (p4 : Int) : AF.edgeOk (lwkA a0 a1 a2 a3 a4 a5 a6) (ctxOf Tryd.prog memo0) (lwkD a0 a1 a2 a3 a4 a5 a6 (.n0 p0 p1 p2 p3 p4)) (AF.runN (lwkA a0 a1 a2 a3 a4 a5 a6) (ctxOf Tryd.prog (memoS 18 lisP lisF lisW lisH 1 memo0)) (.n0 p0 p1 p2 p3 p4)) := by unfold AF.edgeOk; kernel_rfl

theorem lwkok (a0 : Nat) (a1 : Nat → Int) (a2 : Nat → Int) (a3 : Nat → Int) (a4 : Nat → Int) (a5 : Nat) (a6 : Nat → Bool) : (lwkA a0 a1 a2 a3 a4 a5 a6).Ok Tryd.prog (ctxOf Tryd.prog (memoS 18 lisP lisF lisW lisH 1 memo0)) where
  regs := by kernel_rfl
  h0 := by kernel_rfl
  start := lwkstart a0 a1 a2 a3 a4 a5 a6
  node := fun a _ => match a with
   | .n0 p0 p1 p2 p3 p4 => lwknode0 a0 a1 a2 a3 a4 a5 a6 p0 p1 p2 p3 p4
  pd := fun a => match a with
   | .n0 p0 p1 p2 p3 p4 => ⟨(fa_cons rfl (fa_cons rfl (fa_cons rfl (fa_cons rfl fa_nil)))), (fa_cons ⟨.inl (Nat.le_of_ble_eq_true rfl), rfl, rfl⟩ fa_nil), fa_nil, rfl⟩
  le := fun a => match a with
   | .n0 p0 p1 p2 p3 p4 => Nat.le_of_ble_eq_true rfl
  rd := fun v => ⟨⟨fa_nil, fa_nil, fa_nil, rfl⟩, rfl⟩
  wb := rfl


theorem lwkhR {ρ : Env} (a0 : Nat) (a1 : Nat → Int) (a2 : Nat → Int) (a3 : Nat → Int) (a4 : Nat → Int) (a5 : Nat) (a6 : Nat → Bool) (hM : MemoOk Tryd.prog (ctxOf Tryd.prog (memoS 18 lisP lisF lisW lisH 1 memo0)) ρ) : ∀ X a q n D, FxOk ρ X → X.base = (lwkA a0 a1 a2 a3 a4 a5 a6).base → X.nt = (lwkA a0 a1 a2 a3 a4 a5 a6).nt → X.W = (lwkA a0 a1 a2 a3 a4 a5 a6).W → (lwkA a0 a1 a2 a3 a4 a5 a6).rgo a = some q → q n = some D → (lwkA a0 a1 a2 a3 a4 a5 a6).RangeOk Tryd.prog ρ X a D := AF.noRange rfl

theorem lwkctr {ρ : Env} (a0 : Nat) (a1 : Nat → Int) (a2 : Nat → Int) (a3 : Nat → Int) (a4 : Nat → Int) (a5 : Nat) (a6 : Nat → Bool) {n : Nat} {v : lwkR} (hM : MemoOk Tryd.prog (ctxOf Tryd.prog (memoS 18 lisP lisF lisW lisH 1 memo0)) ρ) (hv : (lwkA a0 a1 a2 a3 a4 a5 a6).run n = some v) :
    Ctr Tryd.prog ρ 5 (lwkA a0 a1 a2 a3 a4 a5 a6).args (lwkA a0 a1 a2 a3 a4 a5 a6).H0 (lwkA a0 a1 a2 a3 a4 a5 a6).base (lwkA a0 a1 a2 a3 a4 a5 a6).W ((lwkA a0 a1 a2 a3 a4 a5 a6).rc v) (putH (lwkA a0 a1 a2 a3 a4 a5 a6).H0 ((lwkA a0 a1 a2 a3 a4 a5 a6).rh v ++ (lwkA a0 a1 a2 a3 a4 a5 a6).rx v)) ((lwkA a0 a1 a2 a3 a4 a5 a6).rn v) :=
  AF.ctr try_ok hM (lwkok a0 a1 a2 a3 a4 a5 a6) (fn := Tryd.f5) Tryd.func5 rfl rfl (Nat.le_of_ble_eq_true rfl) rfl (lwkhR a0 a1 a2 a3 a4 a5 a6 hM) hv


theorem lwkmem {ρ : Env} : MemoOk Tryd.prog (ctxOf Tryd.prog (memoS 18 lisP lisF lisW lisH 1 memo0)) ρ := (memoS_ok (lisknown lismem) memo0_ok)


abbrev lwkP : List AQ := [.rows [some .i64, some .i64, some .i64, some .i64], .rows [none]]

noncomputable def lwkF (v : AW) : AF lwkN lwkR := lwkA (v.t.getD 0 .none).n ((v.t.getD 0 .none).c 0) ((v.t.getD 0 .none).c 1) ((v.t.getD 0 .none).c 2) ((v.t.getD 0 .none).c 3) (v.t.getD 1 .none).n ((v.t.getD 1 .none).g 0)

noncomputable def lwkW : lwkR → CV := fun v => .tup [.int .i64 (.x v.1), .int .i64 (.x v.2.1), .int .i64 (.x v.2.2)]
noncomputable def lwkH : lwkR → List (Nat × Blk) := fun v => []



instance : Inhabited lwkR := ⟨(0, 0, 0)⟩
theorem lwkknown {ρ : Env} (hM : MemoOk Tryd.prog (ctxOf Tryd.prog (memoS 18 lisP lisF lisW lisH 1 memo0)) ρ) : KnownS Tryd.prog ρ 5 lwkP lwkF lwkW lwkH 2 where
  fn := ⟨Tryd.f5, Tryd.func5, rfl⟩
  le := Nat.le_of_ble_eq_true rfl
  full := fun r => rfl
  rg := fun r => rfl
  hg := fun r => fa_nil
  ctr := fun v n r h => lwkctr (v.t.getD 0 .none).n ((v.t.getD 0 .none).c 0) ((v.t.getD 0 .none).c 1) ((v.t.getD 0 .none).c 2) ((v.t.getD 0 .none).c 3) (v.t.getD 1 .none).n ((v.t.getD 1 .none).g 0) hM h

end Go.Proofs.YtbnnackoakhmdaaDoor.Cx

/- acme/acmelaw11.LotWalks as an automaton. Made by tools/cxauto.py. -/
namespace Go.Proofs.YtbnnackoakhmdaaDoor.Cx
set_option linter.unusedVariables false
set_option linter.unusedSimpArgs false
set_option maxRecDepth 100000
open Go Go.Proofs Go.RowKit

noncomputable abbrev llwCode : Code := funcCode Tryd.f3


inductive llwN where
  | n0 (p0 : Int) (p1 : Int) (p2 : Int) (p3 : Int)

abbrev llwR := Bool

noncomputable def llwD0 (Y0 : RwxT) (a0 : Nat) (a1 : Nat → Int) (a2 : Nat → Int) (a3 : Nat → Int) (a4 : Nat → Int) (a5 : Nat) (a6 : Nat → Bool) : DD (Lf llwN llwR) :=
 .ask (Cm.run Cm.gtr ((↑a0 : Int)) 60)
   (.ask (Cm.run Cm.leq ((↑a0 : Int)) 511)
   (.leaf (.done true []))
   (.ask (Cm.run Cm.gtr ((↑a0 : Int)) 520)
   (.leaf (.done true []))
   (.ask (Cm.run Cm.gtr ((↑a5 : Int)) 15)
   (.leaf (.done true []))
   (.must (decide (0 + a0 ≤ a0))
   (.must (decide (a0 ≤ 10000))
   (.must (decide (0 + a5 ≤ a5))
   (.must (decide (a5 ≤ 10000))
   (.must (decide (0 + a0 ≤ a0))
   (.must (ShapeOk [some IntKind.i64, some IntKind.i64, some IntKind.i64, some IntKind.i64] (tabOf a0 fun i => [CV.int IntKind.i64 (IE.x (a1 (0 + (0 + i)))), CV.int IntKind.i64 (IE.x (a2 (0 + (0 + i)))), CV.int IntKind.i64 (IE.x (a3 (0 + (0 + i)))), CV.int IntKind.i64 (IE.x (a4 (0 + (0 + i))))]) fun i => [CV.int IntKind.i64 (IE.x (a1 (0 + (0 + i)))), CV.int IntKind.i64 (IE.x (a2 (0 + (0 + i)))), CV.int IntKind.i64 (IE.x (a3 (0 + (0 + i)))), CV.int IntKind.i64 (IE.x (a4 (0 + (0 + i))))])
   (.must (decide (a0 ≤ a0))
   (.must (decide (0 + a5 ≤ a5))
   (.must (ShapeOk [none] (tabOf a5 fun i => [CV.bool (BE.x (a6 (0 + (0 + i))))]) fun i => [CV.bool (BE.x (a6 (0 + (0 + i))))])
   (.must (decide (a5 ≤ a5))
   (.must (AF.fin (lwkA a0 (fun i => a1 (0 + (0 + i))) (fun i => a2 (0 + (0 + i))) (fun i => a3 (0 + (0 + i))) (fun i => a4 (0 + (0 + i))) a5 fun i => a6 (0 + (0 + i))))
   (.leaf (.next (.n0 (Prod.fst (AF.val (lwkA a0 (fun i => a1 (0 + (0 + i))) (fun i => a2 (0 + (0 + i))) (fun i => a3 (0 + (0 + i))) (fun i => a4 (0 + (0 + i))) a5 fun i => a6 (0 + (0 + i))))) (Prod.fst (Prod.snd (AF.val (lwkA a0 (fun i => a1 (0 + (0 + i))) (fun i => a2 (0 + (0 + i))) (fun i => a3 (0 + (0 + i))) (fun i => a4 (0 + (0 + i))) a5 fun i => a6 (0 + (0 + i)))))) (Prod.snd (Prod.snd (AF.val (lwkA a0 (fun i => a1 (0 + (0 + i))) (fun i => a2 (0 + (0 + i))) (fun i => a3 (0 + (0 + i))) (fun i => a4 (0 + (0 + i))) a5 fun i => a6 (0 + (0 + i)))))) 0) [3]))))))))))))))))
   (.ask (Cm.run Cm.gtr ((↑a0 : Int)) 520)
   (.leaf (.done true []))
   (.ask (Cm.run Cm.gtr ((↑a5 : Int)) 15)
   (.leaf (.done true []))
   (.must (decide (0 + a0 ≤ a0))
   (.must (decide (a0 ≤ 10000))
   (.must (decide (0 + a5 ≤ a5))
   (.must (decide (a5 ≤ 10000))
   (.must (decide (0 + a0 ≤ a0))
   (.must (ShapeOk [some IntKind.i64, some IntKind.i64, some IntKind.i64, some IntKind.i64] (tabOf a0 fun i => [CV.int IntKind.i64 (IE.x (a1 (0 + (0 + i)))), CV.int IntKind.i64 (IE.x (a2 (0 + (0 + i)))), CV.int IntKind.i64 (IE.x (a3 (0 + (0 + i)))), CV.int IntKind.i64 (IE.x (a4 (0 + (0 + i))))]) fun i => [CV.int IntKind.i64 (IE.x (a1 (0 + (0 + i)))), CV.int IntKind.i64 (IE.x (a2 (0 + (0 + i)))), CV.int IntKind.i64 (IE.x (a3 (0 + (0 + i)))), CV.int IntKind.i64 (IE.x (a4 (0 + (0 + i))))])
   (.must (decide (a0 ≤ a0))
   (.must (decide (0 + a5 ≤ a5))
   (.must (ShapeOk [none] (tabOf a5 fun i => [CV.bool (BE.x (a6 (0 + (0 + i))))]) fun i => [CV.bool (BE.x (a6 (0 + (0 + i))))])
   (.must (decide (a5 ≤ a5))
   (.must (AF.fin (lwkA a0 (fun i => a1 (0 + (0 + i))) (fun i => a2 (0 + (0 + i))) (fun i => a3 (0 + (0 + i))) (fun i => a4 (0 + (0 + i))) a5 fun i => a6 (0 + (0 + i))))
   (.leaf (.next (.n0 (Prod.fst (AF.val (lwkA a0 (fun i => a1 (0 + (0 + i))) (fun i => a2 (0 + (0 + i))) (fun i => a3 (0 + (0 + i))) (fun i => a4 (0 + (0 + i))) a5 fun i => a6 (0 + (0 + i))))) (Prod.fst (Prod.snd (AF.val (lwkA a0 (fun i => a1 (0 + (0 + i))) (fun i => a2 (0 + (0 + i))) (fun i => a3 (0 + (0 + i))) (fun i => a4 (0 + (0 + i))) a5 fun i => a6 (0 + (0 + i)))))) (Prod.snd (Prod.snd (AF.val (lwkA a0 (fun i => a1 (0 + (0 + i))) (fun i => a2 (0 + (0 + i))) (fun i => a3 (0 + (0 + i))) (fun i => a4 (0 + (0 + i))) a5 fun i => a6 (0 + (0 + i)))))) 0) [3])))))))))))))))

noncomputable def llwD (Y0 : RwxT) (a0 : Nat) (a1 : Nat → Int) (a2 : Nat → Int) (a3 : Nat → Int) (a4 : Nat → Int) (a5 : Nat) (a6 : Nat → Bool) : llwN → DD (Lf llwN llwR)
 | .n0 p0 p1 p2 p3 =>
 .ask (Cm.run Cm.lss p3 (↑a0 : Int))
   (.must (decide (0 ≤ p3))
   (.must (decide (p3 < (↑a0 : Int)))
   (.must (decide (0 + Int.toNat p3 < a0))
   (.must (decide (0 ≤ p3))
   (.must (decide (p3 < (↑a0 : Int)))
   (.must (decide (0 + Int.toNat p3 < a0))
   (.ask (Cm.run Cm.eql (a1 (0 + (0 + Int.toNat p3))) (a1 (0 + Int.toNat p3)))
   (.ask (Cm.run Cm.eql (a2 (0 + (0 + Int.toNat p3))) (a2 (0 + Int.toNat p3)))
   (.ask (Cm.run Cm.eql (a3 (0 + (0 + Int.toNat p3))) (a3 (0 + Int.toNat p3)))
   (.ask (Cm.run Cm.eql (a4 (0 + (0 + Int.toNat p3))) (a4 (0 + Int.toNat p3)))
   (.leaf (.next (.n0 p0 p1 p2 (Ar.run Ar.add IntKind.i64 p3 1)) [2]))
   (.leaf (.done false [])))
   (.leaf (.done false [])))
   (.leaf (.done false [])))
   (.leaf (.done false [])))))))))
   (.must (decide (0 + a0 ≤ a0))
   (.must (ShapeOk [some IntKind.i64, some IntKind.i64, some IntKind.i64, some IntKind.i64] (tabOf a0 fun i => [CV.int IntKind.i64 (IE.x (a1 (0 + i))), CV.int IntKind.i64 (IE.x (a2 (0 + i))), CV.int IntKind.i64 (IE.x (a3 (0 + i))), CV.int IntKind.i64 (IE.x (a4 (0 + i)))]) fun i => [CV.int IntKind.i64 (IE.x (a1 (0 + i))), CV.int IntKind.i64 (IE.x (a2 (0 + i))), CV.int IntKind.i64 (IE.x (a3 (0 + i))), CV.int IntKind.i64 (IE.x (a4 (0 + i)))])
   (.must (AF.fin (lnoA a0 (fun i => a1 (0 + i)) (fun i => a2 (0 + i)) (fun i => a3 (0 + i)) (fun i => a4 (0 + i)) (↑a5 : Int)))
   (.ask (Cm.run Cm.neq (AF.val (lnoA a0 (fun i => a1 (0 + i)) (fun i => a2 (0 + i)) (fun i => a3 (0 + i)) (fun i => a4 (0 + i)) (↑a5 : Int))) 0)
   (.ask (Cm.run Cm.eql p2 (AF.val (lnoA a0 (fun i => a1 (0 + i)) (fun i => a2 (0 + i)) (fun i => a3 (0 + i)) (fun i => a4 (0 + i)) (↑a5 : Int))))
   (.ask (Cm.run Cm.eql p0 0)
   (.ask (Cm.run Cm.eql p1 0)
   (.leaf (.done true []))
   (.leaf (.done false [])))
   (.leaf (.done false [])))
   (.leaf (.done false [])))
   (.must (decide (0 + a0 ≤ a0))
   (.must (ShapeOk [some IntKind.i64, some IntKind.i64, some IntKind.i64, some IntKind.i64] (tabOf a0 fun i => [CV.int IntKind.i64 (IE.x (a1 (0 + i))), CV.int IntKind.i64 (IE.x (a2 (0 + i))), CV.int IntKind.i64 (IE.x (a3 (0 + i))), CV.int IntKind.i64 (IE.x (a4 (0 + i)))]) fun i => [CV.int IntKind.i64 (IE.x (a1 (0 + i))), CV.int IntKind.i64 (IE.x (a2 (0 + i))), CV.int IntKind.i64 (IE.x (a3 (0 + i))), CV.int IntKind.i64 (IE.x (a4 (0 + i)))])
   (.must (decide (0 + a5 ≤ a5))
   (.must (ShapeOk [none] (tabOf a5 fun i => [CV.bool (BE.x (a6 (0 + i)))]) fun i => [CV.bool (BE.x (a6 (0 + i)))])
   (.must (AF.fin (Y0 a0 (fun i => a1 (0 + i)) (fun i => a2 (0 + i)) (fun i => a3 (0 + i)) (fun i => a4 (0 + i)) a5 (fun i => a6 (0 + i)) 0))
   (.ask (Cm.run Cm.eql p2 0)
   (.ask (Cm.run Cm.eql p0 (Prod.fst (AF.val (Y0 a0 (fun i => a1 (0 + i)) (fun i => a2 (0 + i)) (fun i => a3 (0 + i)) (fun i => a4 (0 + i)) a5 (fun i => a6 (0 + i)) 0))))
   (.ask (Cm.run Cm.eql p1 (Prod.snd (AF.val (Y0 a0 (fun i => a1 (0 + i)) (fun i => a2 (0 + i)) (fun i => a3 (0 + i)) (fun i => a4 (0 + i)) a5 (fun i => a6 (0 + i)) 0))))
   (.leaf (.done true []))
   (.leaf (.done false [])))
   (.leaf (.done false [])))
   (.leaf (.done false []))))))))))))

noncomputable def llwA (Y0 : RwxT) (a0 : Nat) (a1 : Nat → Int) (a2 : Nat → Int) (a3 : Nat → Int) (a4 : Nat → Int) (a5 : Nat) (a6 : Nat → Bool) : AF llwN llwR where
  code := llwCode
  base := 2
  nt := 100
  m := 400
  un := []
  W := []
  h0 := [(0, ⟨.arg a0 4 (fun i => [.int .i64 (.x (a1 i)), .int .i64 (.x (a2 i)), .int .i64 (.x (a3 i)), .int .i64 (.x (a4 i))]) (fun _ => ⟨rfl, rfl⟩), 4, true, none⟩), (1, ⟨.arg a5 1 (fun i => [.bool (.x (a6 i))]) (fun _ => ⟨rfl, rfl⟩), 1, true, none⟩)]
  args := [.sla 0 4 0 a0, .sla 1 1 0 a5]
  res := (Tryd.f3).results.toList
  path := fun a => match a with
   | .n0 p0 p1 p2 p3 => [1, 1, 1, 1, 0, 1, 0]
  pd := fun a => match a with
   | .n0 p0 p1 p2 p3 => ⟨[(0, .sla 0 4 0 a0), (1, .sla 1 1 0 a5), (5, .slx 2 4 0 a0 a0), (6, .int .i64 (.x p0)), (7, .int .i64 (.x p1)), (8, .int .i64 (.x p2)), (9, .int .i64 (.x p3))], [(2, ⟨.rows a0 4 (fun i => [.int .i64 (.x (a1 (0 + i))), .int .i64 (.x (a2 (0 + i))), .int .i64 (.x (a3 (0 + i))), .int .i64 (.x (a4 (0 + i)))]) (fun _ => ⟨rfl, rfl⟩), 4, true, none⟩)], 3, []⟩
  D0 := llwD0 Y0 a0 a1 a2 a3 a4 a5 a6
  D := llwD Y0 a0 a1 a2 a3 a4 a5 a6
  rc := (fun v => .bool (.x v))
  rh := (fun v => [])
  rn := (fun v => 2)
  rx := (fun v => [])
  rgo := (fun _ => none)


theorem llwstart (Y0 : RwxT) (a0 : Nat) (a1 : Nat → Int) (a2 : Nat → Int) (a3 : Nat → Int) (a4 : Nat → Int) (a5 : Nat) (a6 : Nat → Bool) : AF.edgeOk (llwA Y0 a0 a1 a2 a3 a4 a5 a6) (ctxOf Tryd.prog memo0) (llwD0 Y0 a0 a1 a2 a3 a4 a5 a6) (AF.run0 (llwA Y0 a0 a1 a2 a3 a4 a5 a6) (ctxOf Tryd.prog (memoS 5 lwkP lwkF lwkW lwkH 2 (memoS 6 lnoP lnoF lnoW lnoH 1 (memoS 7 rwxP (rwxF Y0) rwxW rwxH 2 (memoB [4])))))) := by unfold AF.edgeOk; kernel_rfl

theorem llwnode0 (Y0 : RwxT) (a0 : Nat) (a1 : Nat → Int) (a2 : Nat → Int) (a3 : Nat → Int) (a4 : Nat → Int) (a5 : Nat) (a6 : Nat → Bool) (p0 : Int) (p1 : Int) (p2 : Int) (p3 : Int) : AF.edgeOk (llwA Y0 a0 a1 a2 a3 a4 a5 a6) (ctxOf Tryd.prog memo0) (llwD Y0 a0 a1 a2 a3 a4 a5 a6 (.n0 p0 p1 p2 p3)) (AF.runN (llwA Y0 a0 a1 a2 a3 a4 a5 a6) (ctxOf Tryd.prog (memoS 5 lwkP lwkF lwkW lwkH 2 (memoS 6 lnoP lnoF lnoW lnoH 1 (memoS 7 rwxP (rwxF Y0) rwxW rwxH 2 (memoB [4]))))) (.n0 p0 p1 p2 p3)) := by unfold AF.edgeOk; kernel_rfl

theorem llwok (Y0 : RwxT) (a0 : Nat) (a1 : Nat → Int) (a2 : Nat → Int) (a3 : Nat → Int) (a4 : Nat → Int) (a5 : Nat) (a6 : Nat → Bool) : (llwA Y0 a0 a1 a2 a3 a4 a5 a6).Ok Tryd.prog (ctxOf Tryd.prog (memoS 5 lwkP lwkF lwkW lwkH 2 (memoS 6 lnoP lnoF lnoW lnoH 1 (memoS 7 rwxP (rwxF Y0) rwxW rwxH 2 (memoB [4]))))) where
  regs := by kernel_rfl
  h0 := by kernel_rfl
  start := llwstart Y0 a0 a1 a2 a3 a4 a5 a6
  node := fun a _ => match a with
   | .n0 p0 p1 p2 p3 => llwnode0 Y0 a0 a1 a2 a3 a4 a5 a6 p0 p1 p2 p3
  pd := fun a => match a with
   | .n0 p0 p1 p2 p3 => ⟨(fa_cons rfl (fa_cons rfl (fa_cons rfl (fa_cons rfl (fa_cons rfl (fa_cons rfl (fa_cons rfl fa_nil))))))), (fa_cons ⟨.inl (Nat.le_of_ble_eq_true rfl), (fun _ => rfl), rfl⟩ fa_nil), fa_nil, rfl⟩
  le := fun a => match a with
   | .n0 p0 p1 p2 p3 => Nat.le_of_ble_eq_true rfl
  rd := fun v => ⟨⟨fa_nil, fa_nil, fa_nil, rfl⟩, rfl⟩
  wb := rfl


theorem llwhR {ρ : Env} (Y0 : RwxT) (a0 : Nat) (a1 : Nat → Int) (a2 : Nat → Int) (a3 : Nat → Int) (a4 : Nat → Int) (a5 : Nat) (a6 : Nat → Bool) (hM : MemoOk Tryd.prog (ctxOf Tryd.prog (memoS 5 lwkP lwkF lwkW lwkH 2 (memoS 6 lnoP lnoF lnoW lnoH 1 (memoS 7 rwxP (rwxF Y0) rwxW rwxH 2 (memoB [4]))))) ρ) : ∀ X a q n D, FxOk ρ X → X.base = (llwA Y0 a0 a1 a2 a3 a4 a5 a6).base → X.nt = (llwA Y0 a0 a1 a2 a3 a4 a5 a6).nt → X.W = (llwA Y0 a0 a1 a2 a3 a4 a5 a6).W → (llwA Y0 a0 a1 a2 a3 a4 a5 a6).rgo a = some q → q n = some D → (llwA Y0 a0 a1 a2 a3 a4 a5 a6).RangeOk Tryd.prog ρ X a D := AF.noRange rfl

theorem llwctr {ρ : Env} (Y0 : RwxT) (a0 : Nat) (a1 : Nat → Int) (a2 : Nat → Int) (a3 : Nat → Int) (a4 : Nat → Int) (a5 : Nat) (a6 : Nat → Bool) {n : Nat} {v : llwR} (hM : MemoOk Tryd.prog (ctxOf Tryd.prog (memoS 5 lwkP lwkF lwkW lwkH 2 (memoS 6 lnoP lnoF lnoW lnoH 1 (memoS 7 rwxP (rwxF Y0) rwxW rwxH 2 (memoB [4]))))) ρ) (hv : (llwA Y0 a0 a1 a2 a3 a4 a5 a6).run n = some v) :
    Ctr Tryd.prog ρ 3 (llwA Y0 a0 a1 a2 a3 a4 a5 a6).args (llwA Y0 a0 a1 a2 a3 a4 a5 a6).H0 (llwA Y0 a0 a1 a2 a3 a4 a5 a6).base (llwA Y0 a0 a1 a2 a3 a4 a5 a6).W ((llwA Y0 a0 a1 a2 a3 a4 a5 a6).rc v) (putH (llwA Y0 a0 a1 a2 a3 a4 a5 a6).H0 ((llwA Y0 a0 a1 a2 a3 a4 a5 a6).rh v ++ (llwA Y0 a0 a1 a2 a3 a4 a5 a6).rx v)) ((llwA Y0 a0 a1 a2 a3 a4 a5 a6).rn v) :=
  AF.ctr try_ok hM (llwok Y0 a0 a1 a2 a3 a4 a5 a6) (fn := Tryd.f3) Tryd.func3 rfl rfl (Nat.le_of_ble_eq_true rfl) rfl (llwhR Y0 a0 a1 a2 a3 a4 a5 a6 hM) hv


abbrev llwP : List AQ := [.rows [some .i64, some .i64, some .i64, some .i64], .rows [none]]

noncomputable def llwF (Y0 : RwxT) (v : AW) : AF llwN llwR := llwA Y0 (v.t.getD 0 .none).n ((v.t.getD 0 .none).c 0) ((v.t.getD 0 .none).c 1) ((v.t.getD 0 .none).c 2) ((v.t.getD 0 .none).c 3) (v.t.getD 1 .none).n ((v.t.getD 1 .none).g 0)

noncomputable def llwW : llwR → CV := fun v => .bool (.x v)
noncomputable def llwH : llwR → List (Nat × Blk) := fun v => []



instance : Inhabited llwR := ⟨false⟩
theorem llwknown {ρ : Env} (Y0 : RwxT) (hM : MemoOk Tryd.prog (ctxOf Tryd.prog (memoS 5 lwkP lwkF lwkW lwkH 2 (memoS 6 lnoP lnoF lnoW lnoH 1 (memoS 7 rwxP (rwxF Y0) rwxW rwxH 2 (memoB [4]))))) ρ) : KnownS Tryd.prog ρ 3 llwP (llwF Y0) llwW llwH 2 where
  fn := ⟨Tryd.f3, Tryd.func3, rfl⟩
  le := Nat.le_of_ble_eq_true rfl
  full := fun r => rfl
  rg := fun r => rfl
  hg := fun r => fa_nil
  ctr := fun v n r h => llwctr Y0 (v.t.getD 0 .none).n ((v.t.getD 0 .none).c 0) ((v.t.getD 0 .none).c 1) ((v.t.getD 0 .none).c 2) ((v.t.getD 0 .none).c 3) (v.t.getD 1 .none).n ((v.t.getD 1 .none).g 0) hM h

end Go.Proofs.YtbnnackoakhmdaaDoor.Cx

/- A CALL THAT IS KNOWN BY A RUN OF ITS OWN: the evaluator runs it once, in a small memory that holds its arguments' blocks; wherever the same arguments come up, with blocks that hold the same, it yields the same. So a long run is many short ones, each a theorem of its own. -/
namespace Go.Proofs.YtbnnackoakhmdaaDoor.Cx
set_option linter.unusedSimpArgs false
set_option linter.unusedVariables false
open Go Go.RowKit

mutual
/-- The same value, where block b is called β b. -/
def CV.eqv (β : Nat → Nat) (N : Nat) : CV → CV → Bool
  | .bool (.c a), .bool (.c b) => (a && b) || (!a && !b)
  | .int k (.c n), .int k' (.c m) => decide (k = k') && decide (n = m)
  | .ptr none, .ptr none => true
  | .ptr (some (b, o)), .ptr (some (b', o')) => Nat.blt b N && (Nat.beq (β b) b' && Nat.beq o o')
  | .slc none n c, .slc none n' c' => Nat.beq n n' && Nat.beq c c'
  | .slc (some (b, o)) n c, .slc (some (b', o')) n' c' => Nat.blt b N && (Nat.beq (β b) b' && (Nat.beq o o' && (Nat.beq n n' && Nat.beq c c')))
  | .emp, .emp => true
  | .agg l, .agg m => CV.eqvl β N l m
  | .tup l, .tup m => CV.eqvl β N l m
  | _, _ => false
def CV.eqvl (β : Nat → Nat) (N : Nat) : List CV → List CV → Bool
  | [], [] => true
  | c :: l, d :: m => CV.eqv β N c d && CV.eqvl β N l m
  | _, _ => false
end

section
variable {P : Program} {ρ : Env}

mutual
theorem CV.eqv_ok {β : Nat → Nat} {N : Nat} {σ τ : Mp} (hβ : ∀ b, b < N → τ b = σ (β b)) : ∀ (c d : CV) {v : Value}, CV.eqv β N c d = true → VR ρ σ d v → VR ρ τ c v := by
  intro c d v h hv
  unfold CV.eqv at h
  split at h
  · rename_i a b
    obtain rfl := hv.bool_inv
    have e : a = b := by cases a <;> cases b <;> first | rfl | cases h
    subst e
    exact .bool (.c a)
  · simp only [Bool.and_eq_true, decide_eq_true_eq] at h
    obtain ⟨rfl, rfl⟩ := h
    obtain rfl := hv.int_inv
    exact .int _ (.c _)
  · cases hv; exact .ptr0
  · rename_i b o b' o'
    simp only [Bool.and_eq_true] at h
    obtain ⟨h1, h2, h3⟩ := h
    obtain rfl := Nat.eq_of_beq_eq_true h2
    obtain rfl := Nat.eq_of_beq_eq_true h3
    cases hv with
    | ptr hl => exact .ptr ((hβ b (blt_lt h1)).trans hl)
  · simp only [Bool.and_eq_true] at h
    obtain ⟨h1, h2⟩ := h
    obtain rfl := Nat.eq_of_beq_eq_true h1
    obtain rfl := Nat.eq_of_beq_eq_true h2
    cases hv; exact .slc0
  · rename_i b o n c b' o' n' c'
    simp only [Bool.and_eq_true] at h
    obtain ⟨h1, h2, h3, h4, h5⟩ := h
    obtain rfl := Nat.eq_of_beq_eq_true h2
    obtain rfl := Nat.eq_of_beq_eq_true h3
    obtain rfl := Nat.eq_of_beq_eq_true h4
    obtain rfl := Nat.eq_of_beq_eq_true h5
    cases hv with
    | slc hl hc hs => exact .slc ((hβ b (blt_lt h1)).trans hl) hc hs
  · cases hv; exact .emp _ _
  · rename_i l m
    obtain ⟨cs, rfl, h1⟩ := hv.agg_inv
    exact .agg (CV.eqvl_ok hβ l m h h1)
  · rename_i l m
    obtain ⟨cs, rfl, h1⟩ := hv.tup_inv
    exact .tup (CV.eqvl_ok hβ l m h h1)
  · cases h
theorem CV.eqvl_ok {β : Nat → Nat} {N : Nat} {σ τ : Mp} (hβ : ∀ b, b < N → τ b = σ (β b)) : ∀ (l m : List CV) {vs : List Value}, CV.eqvl β N l m = true → VRl ρ σ m vs → VRl ρ τ l vs
  | [], [], _, _, hv => by cases hv; exact .nil
  | [], d :: m, _, h, _ => by unfold CV.eqvl at h; cases h
  | c :: l, [], _, h, _ => by unfold CV.eqvl at h; cases h
  | c :: l, d :: m, _, h, hv => by
    unfold CV.eqvl at h
    simp only [Bool.and_eq_true] at h
    cases hv with
    | cons h1 t1 => exact .cons (CV.eqv_ok hβ c d h.1 h1) (CV.eqvl_ok hβ l m h.2 t1)
end

abbrev KBlk := List CV × Nat
def KBlk.blk (x : KBlk) : Blk := ⟨.lit x.1, x.2, true, none⟩

noncomputable def hB : List KBlk → Nat → Tr Blk
  | [], _ => .nil
  | x :: l, q => (hB l (q + 1)).set q (KBlk.blk x)

theorem hB_get (i : Nat) : ∀ (l : List KBlk) (q : Nat) (k : Blk), (hB l q).get i = some k → ∃ j x, i = q + j ∧ l[j]? = some x ∧ k = KBlk.blk x
  | [], q, k, h => by simp [hB, Tr.get_nil] at h
  | x :: l, q, k, h => by
    simp only [hB, Tr.get_set] at h
    by_cases hi : i = q
    · rw [if_pos hi] at h
      cases h
      exact ⟨0, x, by omega, rfl, rfl⟩
    · rw [if_neg hi] at h
      obtain ⟨j, x', h1, h2, h3⟩ := hB_get i l (q + 1) k h
      exact ⟨j + 1, x', by omega, by simpa using h2, h3⟩

def nodB : List Nat → Bool
  | [] => true
  | b :: l => !(l.any (Nat.beq b)) && nodB l
theorem nodB_ok : ∀ {l : List Nat}, nodB l = true → ∀ (i j b : Nat), l[i]? = some b → l[j]? = some b → i = j
  | [], _, i, j, b, h, _ => by simp at h
  | c :: l, h, i, j, b, hi, hj => by
    unfold nodB at h
    simp only [Bool.and_eq_true, Bool.not_eq_true'] at h
    have no : ∀ j : Nat, l[j]? = some c → False := fun j hj => by
      have := List.any_eq_false.1 h.1 c (List.mem_of_getElem? hj)
      exact this (Nat.beq_refl c)
    cases i with
    | zero =>
      cases j with
      | zero => rfl
      | succ j =>
        have e0 : c = b := by simpa using hi
        subst e0
        exact (no j (by simpa using hj)).elim
    | succ i =>
      cases j with
      | zero =>
        have e0 : c = b := by simpa using hj
        subst e0
        exact (no i (by simpa using hi)).elim
      | succ j => exact congrArg Nat.succ (nodB_ok h.2 i j b (by simpa using hi) (by simpa using hj))

/-- A call: its arguments, their blocks, what it yields, the blocks that it makes and that matter (how the run calls them): they are numbered behind the arguments' blocks. -/
structure KCall where
  g : Nat
  args : List CV
  blks : List KBlk
  c : CV
  new : List (Nat × KBlk)

def KCall.n1 (K : KCall) : Nat := K.blks.length + K.new.length
/-- What the run calls a block. -/
def KCall.old (K : KCall) (b : Nat) : Nat := bif Nat.blt b K.blks.length then b else match K.new[b - K.blks.length]? with | some x => x.1 | none => 0
noncomputable def KCall.h1 (K : KCall) : Tr Blk := hB (K.new.map (·.2)) K.blks.length

/-- The run says so. -/
noncomputable def KCall.says (K : KCall) : Option Out → Bool
  | some ⟨.val c', s1, _, []⟩ => (match s1.pc with | [] => true | _ => false) && (CV.eqv K.old K.n1 K.c c' && ((K.new.all fun x => (Nat.ble K.blks.length x.1 && Nat.blt x.1 s1.next) && match s1.heap.get x.1 with | some ⟨.lit l, e, true, none⟩ => CV.eqvl K.old K.n1 x.2.1 l && Nat.beq e x.2.2 | _ => false) && (nodB (K.new.map (·.1)) && K.blks.all fun x => CV.eqvl id K.blks.length x.1 x.1)))
  | _ => false

structure KCall.Ok (K : KCall) (P : Program) (ρ : Env) : Prop where
  fn : ∃ fn, P.funcs[K.g]? = some fn ∧ fn.body.isSome = true
  rg : K.c.rng K.blks.length K.n1 = true
  hg : ∀ x ∈ K.new, CV.rngl K.blks.length K.n1 x.2.1 = true
  ctr : Ctr P ρ K.g K.args (hB K.blks 0) K.blks.length [] K.c K.h1 K.n1

theorem KCall.of_run {K : KCall} (hP : progOk P = true) {memo : Memo} (hM : MemoOk P (ctxOf P memo) ρ) {m : Nat} (hf : (match P.funcs[K.g]? with | some fn => fn.body.isSome | none => false) = true)
    (h2 : K.c.rng K.blks.length K.n1 = true) (h3 : (K.new.all fun x => CV.rngl K.blks.length K.n1 x.2.1) = true)
    (h : K.says (eval (ctxOf P memo) m K.blks.length (.call K.g K.args) ⟨hB K.blks 0, K.blks.length, [], []⟩) = true) : K.Ok P ρ := by
  refine ⟨?_, h2, fun x hx => List.all_eq_true.1 h3 x hx, ?_, ?_⟩
  · split at hf
    · rename_i fn hfn; exact ⟨fn, hfn, hf⟩
    · cases hf
  · split at hf
    · rename_i fn hfn; exact ⟨fn, hfn, hf⟩
    · cases hf
  · intro n σ w args' ha hH hN
    generalize he : eval (ctxOf P memo) m K.blks.length (.call K.g K.args) ⟨hB K.blks 0, K.blks.length, [], []⟩ = r at h
    unfold KCall.says at h
    split at h
    · rename_i c' s1 R
      simp only [Bool.and_eq_true] at h
      obtain ⟨q1, q3, q4, q5, q6⟩ := h
      have hpc : s1.pc = [] := by
        split at q1
        · assumption
        · cases q1
      have k := (eval_ok (ρ := ρ) (ctxOf_ok hP memo) hM m).call _ _ _ _ _ _ _ _ he
      have := k.run n σ (curOf (hB K.blks 0) K.blks.length) w args' (by rw [hpc]; intro p hp; cases hp) ha hH (fun b hb => by
        rcases hb with hb | hb
        · have : b < K.blks.length := k.lt.1 b hb
          exact if_pos this
        · cases hb) (fun b hb _ => hN b hb)
      refine this.mono ?_
      rintro e' w' ⟨v, rfl, σ1, x1, x2, x3, x4, x5⟩
      have x1 : Ext σ σ1 K.blks.length s1.next := x1
      have x3 : HR ρ σ1 (upd (curOf (hB K.blks 0) K.blks.length) K.blks.length s1.next s1.heap []) w' := x3
      have x5 : Fresh σ σ1 K.blks.length s1.next K.blks.length [] w := x5
      have old0 : ∀ b, b < K.blks.length → K.old b = b := fun b hb => by
        unfold KCall.old
        rw [show Nat.blt b K.blks.length = true from Nat.ble_eq_true_of_le hb, cond_true]
      have old1 : ∀ b, ¬ b < K.blks.length → b < K.n1 → ∃ x, K.new[b - K.blks.length]? = some x ∧ K.old b = x.1 := fun b hb hb2 => by
        have hl : b - K.blks.length < K.new.length := by unfold KCall.n1 at hb2; omega
        refine ⟨_, List.getElem?_eq_getElem hl, ?_⟩
        unfold KCall.old
        have hbf : Nat.blt b K.blks.length = false := by
          cases hbb : Nat.blt b K.blks.length with
          | false => rfl
          | true => exact absurd (blt_lt hbb) hb
        rw [hbf, cond_false, List.getElem?_eq_getElem hl]
      have newOk : ∀ x ∈ K.new, (K.blks.length ≤ x.1 ∧ x.1 < s1.next) ∧ ∃ l, s1.heap.get x.1 = some ⟨.lit l, x.2.2, true, none⟩ ∧ CV.eqvl K.old K.n1 x.2.1 l = true := fun x hx => by
        have := List.all_eq_true.1 q4 x hx
        simp only [Bool.and_eq_true] at this
        obtain ⟨⟨g1, g2⟩, g3⟩ := this
        refine ⟨⟨Nat.le_of_ble_eq_true g1, blt_lt g2⟩, ?_⟩
        split at g3
        · rename_i l e hl
          simp only [Bool.and_eq_true] at g3
          obtain rfl := Nat.eq_of_beq_eq_true g3.2
          exact ⟨l, hl, g3.1⟩
        · cases g3
      obtain ⟨σ2, hσ2⟩ : ∃ σ2 : Mp, σ2 = fun b => if b < K.n1 then σ1 (K.old b) else none := ⟨_, rfl⟩
      have hβ : ∀ b, b < K.n1 → σ2 b = σ1 (K.old b) := fun b hb => by rw [hσ2]; exact if_pos hb
      have hle : K.blks.length ≤ K.n1 := by unfold KCall.n1; omega
      have hlow : ∀ b, b < K.blks.length → σ2 b = σ1 b := fun b hb => by rw [hβ b (by omega), old0 b hb]
      have get : ∀ b k, upd (curOf (hB K.blks 0) K.blks.length) K.blks.length K.n1 K.h1 [] b = some k → b < K.n1 ∧ (∃ k1, upd (curOf (hB K.blks 0) K.blks.length) K.blks.length s1.next s1.heap [] (K.old b) = some k1 ∧ k.live = k1.live ∧ k.esz = k1.esz ∧ k.ext = none ∧ k1.ro = false ∧ ∀ us, VRl ρ σ1 k1.cells us → VRl ρ σ2 k.cells us) := by
        intro b k hk
        by_cases hb : b < K.blks.length
        · refine ⟨by omega, ?_⟩
          unfold upd at hk ⊢
          rw [old0 b hb]
          rw [if_neg (by simp; omega)] at hk ⊢
          have hk2 : curOf (hB K.blks 0) K.blks.length b = some k := hk
          unfold curOf at hk2
          rw [if_pos hb] at hk2
          obtain ⟨j, x, rfl, g1, rfl⟩ := hB_get b K.blks 0 k hk2
          exact ⟨_, hk, rfl, rfl, rfl, rfl, fun us hus => CV.eqvl_ok (fun b hb => hlow b hb) _ _ (List.all_eq_true.1 q6 x (List.mem_of_getElem? g1)) hus⟩
        · by_cases hb2 : b < K.n1
          · refine ⟨hb2, ?_⟩
            unfold upd at hk
            rw [if_pos (.inr ⟨by omega, hb2⟩)] at hk
            have hk : (hB (K.new.map (·.2)) K.blks.length).get b = some k := hk
            obtain ⟨j, x, rfl, g1, rfl⟩ := hB_get b _ _ k hk
            rw [List.getElem?_map] at g1
            obtain ⟨y, hy, hyo⟩ := old1 (K.blks.length + j) hb hb2
            rw [Nat.add_sub_cancel_left] at hy
            rw [hy] at g1
            obtain rfl : y.2 = x := Option.some.inj g1
            obtain ⟨⟨r1, r2⟩, l, r3, r4⟩ := newOk y (List.mem_of_getElem? hy)
            refine ⟨⟨.lit l, y.2.2, true, none⟩, ?_, rfl, rfl, rfl, rfl, fun us hus => CV.eqvl_ok hβ _ _ r4 hus⟩
            unfold upd
            rw [hyo, if_pos (.inr ⟨r1, r2⟩)]
            exact r3
          · unfold upd at hk
            rw [if_neg (by simp; omega)] at hk
            unfold curOf at hk
            rw [if_neg hb] at hk
            cases hk
      have inj : ∀ b b', b < K.n1 → b' < K.n1 → K.old b = K.old b' → b = b' := by
        intro b b' hb hb' he
        by_cases h1 : b < K.blks.length
        · rw [old0 b h1] at he
          by_cases h2 : b' < K.blks.length
          · rw [old0 b' h2] at he; exact he
          · obtain ⟨y, hy, hyo⟩ := old1 b' h2 hb'
            have := (newOk y (List.mem_of_getElem? hy)).1.1
            omega
        · obtain ⟨x, hx, hxo⟩ := old1 b h1 hb
          by_cases h2 : b' < K.blks.length
          · rw [old0 b' h2] at he
            have := (newOk x (List.mem_of_getElem? hx)).1.1
            omega
          · obtain ⟨y, hy, hyo⟩ := old1 b' h2 hb'
            have := nodB_ok q5 (b - K.blks.length) (b' - K.blks.length) x.1 (by rw [List.getElem?_map, hx]; rfl) (by rw [List.getElem?_map, hy]; show some y.1 = some x.1; rw [← hyo, ← he, hxo])
            omega
      refine ⟨v, rfl, σ2, fun b hb => ?_, CV.eqv_ok hβ _ _ q3 x2, ?_, x4, fun b l b1 b2 b3 => ?_⟩
      · have hb : b < K.blks.length ∨ K.n1 ≤ b := hb
        rcases hb with hb | hb
        · rw [hlow b hb]; exact x1 b (.inl hb)
        · rw [hσ2, hN b (by omega)]; exact if_neg (by omega)
      · refine ⟨fun b k l a1 a2 a3 => ?_, fun b b' k k' l l' a1 a2 a3 a4 a5 a6 a7 a8 => ?_, fun b k x l a1 a2 a3 => ?_, fun b b' k k' x x' l l' a1 a2 a3 a4 a5 a6 a7 => ?_, fun y hy => ⟨(x3.glob y hy).1, fun b k l a1 a2 ar a3 => ?_⟩⟩
        · obtain ⟨hb, k1, g1, g2, g3, _, _, g5⟩ := get b k a1
          rw [hβ b hb] at a3
          obtain ⟨cs, t, p, r1, r2, r3, r4, r5, r6⟩ := x3.cell _ k1 l g1 (g2 ▸ a2) a3
          have r7 := g5 _ r6
          have hln : k.cells.length = k1.cells.length := r7.length.symm.trans r6.length
          exact ⟨cs, t, p, r1, fun _ => r2 (by assumption), r3, g3.trans r4, by rw [hln]; exact r5, by rw [hln]; exact r7⟩
        · obtain ⟨hb, k1, g1, g2, _, _, g4, _⟩ := get b k a1
          obtain ⟨hb', k1', g1', g2', _, _, g4', _⟩ := get b' k' a4
          rw [hβ b hb] at a3
          rw [hβ b' hb'] at a6
          exact inj b b' hb hb' (x3.inj _ _ k1 k1' l l' g1 (g2 ▸ a2) a3 g1' (g2' ▸ a5) a6 a7 (.inl g4))
        · obtain ⟨_, _, _, _, _, g, _⟩ := get b k a1
          rw [g] at a2; cases a2
        · obtain ⟨_, _, _, _, _, g, _⟩ := get b k a1
          rw [g] at a2; cases a2
        · obtain ⟨hb, k1, g1, g2, _, _, g4, _⟩ := get b k a1
          rw [hβ b hb] at a3
          exact (x3.glob y hy).2 _ k1 l g1 (g2 ▸ a2) g4 a3
      · have b2 : b < K.n1 := b2
        have hnb : ¬ b < K.blks.length := by have b1 : K.blks.length ≤ b := b1; omega
        rw [hβ b b2] at b3
        obtain ⟨y, hy, hyo⟩ := old1 b hnb b2
        obtain ⟨⟨r1, r2⟩, _⟩ := newOk y (List.mem_of_getElem? hy)
        rw [hyo] at b3
        exact x5 y.1 l r1 r2 b3
    · cases h

/-- The new blocks, by the numbers that they get. -/
def newL (q : Nat) : List (Nat × KBlk) → List (Nat × Blk)
  | [] => []
  | x :: l => (q, KBlk.blk x.2) :: newL (q + 1) l
def KCall.newB (K : KCall) : List (Nat × Blk) := newL K.blks.length K.new

theorem newL_mem : ∀ {l : List (Nat × KBlk)} {q : Nat} {y : Nat × Blk}, y ∈ newL q l → (q ≤ y.1 ∧ y.1 < q + l.length) ∧ ∃ x ∈ l, y.2 = KBlk.blk x.2
  | [], q, y, h => by cases h
  | x :: l, q, y, h => by
    rcases List.mem_cons.1 h with rfl | h
    · exact ⟨⟨Nat.le_refl _, by simp⟩, x, List.mem_cons_self .., rfl⟩
    · obtain ⟨⟨h1, h2⟩, z, hz, e⟩ := newL_mem h
      exact ⟨⟨by omega, by simp only [List.length_cons]; omega⟩, z, List.mem_cons_of_mem _ hz, e⟩
theorem newL_find : ∀ (l : List (Nat × KBlk)) (q b : Nat), (newL q l).find? (fun x => x.1 == b) = if q ≤ b then (l[b - q]?).map (fun x => (b, KBlk.blk x.2)) else none
  | [], q, b => by simp [newL]
  | x :: l, q, b => by
    rw [newL, List.find?_cons]
    by_cases h : q = b
    · subst h; simp
    · have hf : (q == b) = false := by simpa using h
      rw [hf, newL_find l (q + 1) b]
      by_cases h2 : q + 1 ≤ b
      · rw [if_pos h2, if_pos (by omega), show b - q = (b - (q + 1)) + 1 by omega, List.getElem?_cons_succ]
      · rw [if_neg h2, if_neg (by omega)]
theorem hB_at : ∀ (l : List KBlk) (q b : Nat), (hB l q).get b = if q ≤ b then (l[b - q]?).map KBlk.blk else none
  | [], q, b => by simp [hB, Tr.get_nil]
  | x :: l, q, b => by
    rw [hB, Tr.get_set]
    by_cases h : b = q
    · subst h; simp
    · rw [if_neg h, hB_at l (q + 1) b]
      by_cases h2 : q + 1 ≤ b
      · rw [if_pos h2, if_pos (by omega), show b - q = (b - (q + 1)) + 1 by omega, List.getElem?_cons_succ]
      · rw [if_neg h2, if_neg (by omega)]

/-! ## The memo -/

def insM (b b' : Nat) (m : List (Nat × Nat)) : List (Nat × Nat) := bif m.any (fun x => Nat.beq x.1 b) then m else (b, b') :: m
mutual
def CV.uni : CV → CV → List (Nat × Nat) → List (Nat × Nat)
  | .ptr (some (b, _)), .ptr (some (b', _)), m => insM b b' m
  | .slc (some (b, _)) _ _, .slc (some (b', _)) _ _, m => insM b b' m
  | .agg l, .agg l', m => CV.unil l l' m
  | .tup l, .tup l', m => CV.unil l l' m
  | _, _, m => m
def CV.unil : List CV → List CV → List (Nat × Nat) → List (Nat × Nat)
  | c :: l, d :: l', m => CV.unil l l' (CV.uni c d m)
  | _, _, m => m
end
def lookM (m : List (Nat × Nat)) (b : Nat) : Nat := match m.find? (fun x => Nat.beq x.1 b) with | some x => x.2 | none => 0
noncomputable def uniB (s : St) : List KBlk → Nat → List (Nat × Nat) → List (Nat × Nat)
  | [], _, m => m
  | x :: l, i, m => uniB s l (i + 1) (match s.heap.get (lookM m i) with | some ⟨.lit k, _, _, _⟩ => CV.unil x.1 k m | _ => m)

noncomputable def chkB (s : St) (β : Nat → Nat) (N : Nat) : List KBlk → Nat → Bool
  | [], _ => true
  | x :: l, i => (match s.heap.get (β i) with | some ⟨.lit k, e, true, none⟩ => CV.eqvl β N x.1 k && (Nat.beq e x.2 && Nat.blt (β i) s.next) | _ => false) && chkB s β N l (i + 1)

theorem chkB_ok {s : St} {β : Nat → Nat} {N : Nat} : ∀ {l : List KBlk} {q : Nat}, chkB s β N l q = true → ∀ j x, l[j]? = some x → ∃ k e, s.heap.get (β (q + j)) = some ⟨.lit k, e, true, none⟩ ∧ CV.eqvl β N x.1 k = true ∧ e = x.2 ∧ β (q + j) < s.next
  | [], q, _, j, x, h => by simp at h
  | y :: l, q, h, j, x, hx => by
    unfold chkB at h
    simp only [Bool.and_eq_true] at h
    obtain ⟨h1, h2⟩ := h
    cases j with
    | zero =>
      have e0 : y = x := by simpa using hx
      subst e0
      split at h1
      · rename_i k e hk
        simp only [Bool.and_eq_true] at h1
        exact ⟨k, e, hk, h1.1, Nat.eq_of_beq_eq_true h1.2.1, blt_lt h1.2.2⟩
      · cases h1
    | succ j =>
      have := chkB_ok h2 j x (by simpa using hx)
      rw [show q + 1 + j = q + (j + 1) by omega] at this
      exact this

/-- The names that the blocks have. -/
noncomputable def KCall.bs (K : KCall) (s : St) (args : List CV) : List Nat := (List.range K.blks.length).map (lookM (uniB s K.blks 0 (CV.unil K.args args [])))
def bOf (bs : List Nat) (i : Nat) : Nat := (bs[i]?).getD 0

noncomputable def KCall.fits (K : KCall) (s : St) (args : List CV) (bs : List Nat) : Bool :=
  CV.eqvl (bOf bs) K.blks.length K.args args && (chkB s (bOf bs) K.blks.length K.blks 0 && (nodB bs && Nat.beq bs.length K.blks.length))

noncomputable def memoK (K : KCall) (inner : Memo) : Memo := fun f args s =>
  bif Nat.beq f K.g && K.fits s args (K.bs s args) then
    some (K.c.ren (liftName K.blks.length s.next), { s with heap := putNew K.blks.length s.next s.heap K.newB, next := s.next + (K.n1 - K.blks.length) }, K.bs s args, [])
  else inner f args s

theorem memoK_ok {K : KCall} {inner : Memo} (hK : K.Ok P ρ) (hi : MemoOk P (ctxOf P inner) ρ) : MemoOk P (ctxOf P (memoK K inner)) ρ := by
  have lift : ∀ {f args s c s' R' W}, CallOk P (ctxOf P inner) ρ f args s c s' R' W → CallOk P (ctxOf P (memoK K inner)) ρ f args s c s' R' W := fun h => ⟨h.fn, h.frm, h.lt, h.run⟩
  intro f args s c s' R' W h0
  have h : memoK K inner f args s = some (c, s', R', W) := h0
  clear h0
  unfold memoK at h
  generalize hbs : K.bs s args = bs at h
  cases hf : (Nat.beq f K.g && K.fits s args bs) with
  | false => rw [hf, cond_false] at h; exact lift (hi _ _ _ _ _ _ _ h)
  | true =>
    rw [hf, cond_true] at h
    cases h
    simp only [Bool.and_eq_true, KCall.fits] at hf
    obtain ⟨f1, f2, f3, f4, f5⟩ := hf
    obtain rfl := Nat.eq_of_beq_eq_true f1
    have hlen := Nat.eq_of_beq_eq_true f5
    have hblk := chkB_ok f3
    have at' : ∀ i, i < K.blks.length → R'[i]? = some (bOf R' i) := fun i hi => by
      unfold bOf
      rw [List.getElem?_eq_getElem (by omega)]
      rfl
    have rngw : ∀ x ∈ K.newB, K.blks.length ≤ x.1 ∧ x.1 < K.n1 := fun x hx => (newL_mem hx).1
    refine Ctr.callS (base := K.blks.length) (n1 := K.n1) (args := K.args) (h0 := hB K.blks 0) (h1 := K.h1) (K := fun _ => hK.ctr) hK.fn (by unfold KCall.n1; omega) rfl ⟨[], rfl⟩ (fun b hb => ?_) (fun j hj kb hk => ?_) (fun b hb => ?_) (fun σ cur w l hp hl hH hcur => ?_) (fun σ σ2 v hl h => VR.lift hl h hK.rg)
    · show (putNew _ _ _ _).get b = _
      rw [get_putNew]
      split
      · rename_i x hx
        have h1 := List.find?_some hx
        have h2 := List.mem_of_find?_eq_some hx
        simp only [beq_iff_eq] at h1
        obtain ⟨q1, q2⟩ := rngw _ h2
        refine absurd ?_ hb
        show s.next ≤ b ∧ b < s.next + (K.n1 - K.blks.length)
        unfold liftName at h1
        omega
      · rfl
    · have hk : (putNew K.blks.length s.next s.heap K.newB).get (s.next + j) = some kb := hk
      rw [get_putNew] at hk
      have e : ∀ x ∈ K.newB, (liftName K.blks.length s.next x.1 == s.next + j) = (x.1 == K.blks.length + j) := fun x hx => by
        obtain ⟨q1, q2⟩ := rngw x hx
        unfold liftName
        rw [Bool.eq_iff_iff]
        simp only [beq_iff_eq]
        omega
      have hcg := find_congr e
      rw [hcg] at hk
      have hjl : j < K.new.length := by unfold KCall.n1 at hj; omega
      have hfd : K.newB.find? (fun x => x.1 == K.blks.length + j) = some (K.blks.length + j, KBlk.blk K.new[j].2) := by
        unfold KCall.newB
        rw [newL_find, if_pos (by omega), Nat.add_sub_cancel_left, List.getElem?_eq_getElem hjl]
        rfl
      rw [hfd] at hk
      cases hk
      have hmem : K.new[j] ∈ K.new := List.getElem_mem hjl
      have g1 := hK.hg _ hmem
      refine ⟨KBlk.blk K.new[j].2, ?_, rfl, rfl, rfl, fun h => rfl, fun σ σ2 us hl h => Blk.lift (k := KBlk.blk K.new[j].2) hl g1 h⟩
      unfold KCall.h1
      rw [hB_at, if_pos (by omega), Nat.add_sub_cancel_left, List.getElem?_map, List.getElem?_eq_getElem hjl]
      rfl
    · obtain ⟨i, hi'⟩ := List.getElem?_of_mem hb
      have hil : i < K.blks.length := by
        have := (List.getElem?_eq_some_iff.1 hi').1
        omega
      obtain ⟨k, e, _, _, _, q⟩ := hblk i _ (List.getElem?_eq_getElem hil)
      rw [Nat.zero_add] at q
      have := at' i hil
      rw [hi'] at this
      rw [Option.some.inj this]; exact q
    · have hτ : ∀ b, b < K.blks.length → (fun i => if i < K.blks.length then σ (bOf R' i) else none) b = σ (bOf R' b) := fun b hb => if_pos hb
      refine ⟨fun i => if i < K.blks.length then σ (bOf R' i) else none, CV.eqvl_ok hτ _ _ f2 hl, ?_, fun b hb => if_neg (by omega)⟩
      have get : ∀ b k, curOf (hB K.blks 0) K.blks.length b = some k → ∃ x k1, b < K.blks.length ∧ k = KBlk.blk x ∧ cur (bOf R' b) = some ⟨.lit k1, x.2, true, none⟩ ∧ ∀ us, VRl ρ σ k1 us → VRl ρ (fun i => if i < K.blks.length then σ (bOf R' i) else none) x.1 us := by
        intro b k hk
        unfold curOf at hk
        split at hk
        · rename_i hb
          obtain ⟨j, x, rfl, g1, rfl⟩ := hB_get b K.blks 0 k hk
          obtain ⟨k1, e, c1, c2, rfl, c4⟩ := hblk j x g1
          have hm : bOf R' (0 + j) ∈ R' := List.mem_of_getElem? (at' _ hb)
          exact ⟨x, k1, hb, rfl, (hcur _ hm).trans c1, fun us hus => CV.eqvl_ok hτ _ _ c2 hus⟩
        · cases hk
      refine ⟨fun b k l a1 a2 a3 => ?_, fun b b' k k' l l' a1 a2 a3 a4 a5 a6 a7 a8 => ?_, fun b k x l a1 a2 a3 => ?_, fun b b' k k' x x' l l' a1 a2 a3 a4 a5 a6 a7 => ?_, fun y hy => ⟨(hH.glob y hy).1, fun b k l a1 a2 ar a3 => ?_⟩⟩
      · obtain ⟨x, k1, hb, rfl, q1, q2⟩ := get b k a1
        have a3 : (if b < K.blks.length then σ (bOf R' b) else none) = some l := a3
        rw [if_pos hb] at a3
        obtain ⟨cs, t, p, r1, r2, r3, r4, r5, r6⟩ := hH.cell _ _ l q1 rfl a3
        have r7 := q2 _ r6
        have r6l := r6.length
        have r7l := r7.length
        have e1 : Blk.cells ⟨.lit k1, x.2, true, none⟩ = k1 := rfl
        have e2 : Blk.cells (KBlk.blk x) = x.1 := rfl
        rw [e1] at r5 r6 r7 r7l r6l
        have hln : x.1.length = k1.length := r7l.symm.trans r6l
        exact ⟨cs, t, p, r1, fun _ => r2 rfl, r3, r4, by rw [e2, hln]; exact r5, by rw [e2, hln]; exact r7⟩
      · obtain ⟨x, k1, hb, rfl, q1, _⟩ := get b k a1
        obtain ⟨x', k1', hb', rfl, q1', _⟩ := get b' k' a4
        have a3 : (if b < K.blks.length then σ (bOf R' b) else none) = some l := a3
        have a6 : (if b' < K.blks.length then σ (bOf R' b') else none) = some l' := a6
        rw [if_pos hb] at a3
        rw [if_pos hb'] at a6
        have := hH.inj _ _ _ _ l l' q1 rfl a3 q1' rfl a6 a7 (.inl rfl)
        exact nodB_ok f4 b b' _ (at' b hb) (by rw [this]; exact at' b' hb')
      · obtain ⟨x', k1, hb, rfl, _⟩ := get b k a1
        cases a2
      · obtain ⟨x', k1, hb, rfl, _⟩ := get b k a1
        cases a2
      · obtain ⟨x', k1, hb, rfl, q1, _⟩ := get b k a1
        have a3 : (if b < K.blks.length then σ (bOf R' b) else none) = some l := a3
        rw [if_pos hb] at a3
        exact (hH.glob y hy).2 _ _ l q1 rfl rfl a3
end
end Go.Proofs.YtbnnackoakhmdaaDoor.Cx

/- Contracts of package exact's numbers: the greatest common divisor, ratios, rounding up. Over Int. -/
namespace Go.Proofs.YtbnnackoakhmdaaDoor
open Go.RowKit

/-- A block of cells that holds just these values, and may be written. -/
def Box (w : World) (g : Nat) (cs : Array Value) : Prop := g < w.heap.size ∧ (∀ i, w.cell? ⟨g, i, none⟩ = cs[i]?) ∧ ∀ i, w.frozen? ⟨g, i, none⟩ = false

theorem cell_at {w : World} {g : Nat} {cs : Array Value} {t : TypeId} {fr : Nat × Nat} (h : w.heap[g]? = some (.cells cs t fr)) (i : Nat) : w.cell? ⟨g, i, none⟩ = cs[i]? := by simp [World.cell?, h]
theorem free_at {w : World} {g : Nat} {cs : Array Value} {t : TypeId} (h : w.heap[g]? = some (.cells cs t (0, 0))) (i : Nat) : w.frozen? ⟨g, i, none⟩ = false := by simp [World.frozen?, h]

theorem Box.new (w : World) (cs : Array Value) (T : TypeId) : Box (w.alloc (.cells cs T)) w.heap.size cs := by
  have h := (MapKept.heap_alloc w (.cells cs T)).1
  exact ⟨by simp, cell_at h, free_at h⟩

theorem Box.newAt {n : Nat} (w : World) (cs : Array Value) (T : TypeId) (hn : n = w.heap.size) : Box (w.alloc (.cells cs T)) n cs := by
  subst hn
  exact Box.new w cs T

theorem Box.below {w w' : World} {g : Nat} {cs : Array Value} (h : Box w g cs) (hb : Below w.heap.size w w') : Box w' g cs :=
  ⟨Nat.lt_of_lt_of_le h.1 hb.size, fun i => (hb.cell (p := ⟨g, i, none⟩) h.1).trans (h.2.1 i), fun i => (hb.frozen (p := ⟨g, i, none⟩) h.1).trans (h.2.2 i)⟩

theorem Box.alloc {w : World} {g : Nat} {cs : Array Value} (h : Box w g cs) (o : Obj) : Box (w.alloc o) g cs := h.below ((Below.refl _ _).alloc (Nat.le_refl _) o)

theorem Box.setCell {w : World} {g i : Nat} {cs : Array Value} (h : Box w g cs) (hi : i < cs.size) (v : Value) : Box (w.setCell ⟨g, i, none⟩ v) g (cs.setIfInBounds i v) := by
  refine ⟨by rw [World.size_setCell]; exact h.1, fun j => ?_, fun j => by rw [World.frozen?_setCell]; exact h.2.2 j⟩
  by_cases e : i = j
  · subst e
    have hc : w.cell? ⟨g, i, none⟩ = some cs[i] := by rw [h.2.1 i]; simp [hi]
    rw [World.cell?_setCell_same _ _ _ hc]
    simp [hi]
  · rw [World.cell?_setCell_other _ _ _ _ (fun x => e (by injection x)), h.2.1 j, Array.getElem?_setIfInBounds, if_neg e]

theorem Box.setOther {w : World} {g g' i : Nat} {cs : Array Value} (h : Box w g cs) (hg : g' ≠ g) (v : Value) : Box (w.setCell ⟨g', i, none⟩ v) g cs := by
  refine ⟨by rw [World.size_setCell]; exact h.1, fun j => ?_, fun j => by rw [World.frozen?_setCell]; exact h.2.2 j⟩
  rw [World.cell?_setCell_other _ _ _ _ (fun x => hg (by injection x)), h.2.1 j]

theorem Box.drew {w : World} {g : Nat} {cs : Array Value} (h : Box w g cs) : Box w.drew g cs := h.below ((Below.refl _ _).drew)

theorem stepB {w X w2 : World} (hX : Below w.heap.size w X) (hb : Below X.heap.size X w2) : Below w.heap.size w w2 := hX.trans (hb.mono hX.size)

theorem below_drewN (B : Nat) (w : World) (n : Nat) : Below B w (w.drewN n) := ⟨rfl, rfl, rfl, Nat.le_refl _, fun _ _ => rfl⟩

set_option maxHeartbeats 400000 in
theorem gcd_any (a b : Int) (w : World) (ha : 0 ≤ a) (hb : 0 ≤ b) :
    Calls Tryd.prog 53 #[.int .i64 a, .int .i64 b] w fun e w' => e = .returned (.int .i64 (Int.gcd a b)) ∧ Below w.heap.size w w' := by
  go_enter Tryd.func53, Tryd.ntmps53
  go_wp2
  go_loopw [0, 1] (fun x y wr => ∃ p q : Nat, x = .int .i64 p ∧ y = .int .i64 q ∧ Hid (Nat.gcd p q = Int.gcd a b) ∧ Hid (Below w.heap.size w wr)) (fun _ y _ => (intOf y).toNat)
  case atStart =>
    obtain ⟨p, rfl⟩ := Int.eq_ofNat_of_zero_le ha
    obtain ⟨q, rfl⟩ := Int.eq_ofNat_of_zero_le hb
    exact ⟨p, q, rfl, rfl, rfl, Below.refl _ _⟩
  case round =>
    obtain ⟨p, q, rfl, rfl, hg, hbel⟩ := hrel
    by_cases hq : q = 0
    · subst hq
      go_wp2
      go_ret
      refine ⟨?_, hbel⟩
      have := hg.out
      simp at this
      rw [this]
      rfl
    · have hq1 : (1 : Int) ≤ q := by omega
      have hg' : Hid (Nat.gcd q (p % q) = Int.gcd a b) := by
        have := hg.out
        rw [Nat.gcd_comm, ← Nat.gcd_rec, Nat.gcd_comm]
        exact this
      clear hg
      go_wp2
      go_quiet (fail)
      go_wp2
      go_roundw
      case rel => exact ⟨q, p % q, rfl, by first | rfl | simp, hg', Below.trans hbel (below_drewN _ _ _)⟩
      case measure =>
        have := Nat.mod_lt p (Nat.pos_of_ne_zero hq)
        simp [intOf]; omega

/-- A ratio in lowest terms, as the program gives it. -/
def ratV (n d : Int) : Value := .agg #[.int .i64 (n / Int.gcd n d), .int .i64 (d / Int.gcd n d)]

theorem gcd_max_neg (n d : Int) : Int.gcd (max n (-n)) d = Int.gcd n d := by
  rcases Int.le_total 0 n with h | h
  · rw [Int.max_eq_left (by omega)]
  · rw [Int.max_eq_right (by omega), Int.neg_gcd]

theorem gcd_pos_of (n d : Int) (hd : 1 ≤ d) : 1 ≤ (Int.gcd n d : Int) := by
  have : 0 < Int.gcd n d := Int.gcd_pos_of_ne_zero_right _ (by omega)
  omega

theorem bcell {W w1 : World} (hb : Below W.heap.size W w1) : (∀ b o, b < W.heap.size → w1.cell? ⟨b, o, none⟩ = W.cell? ⟨b, o, none⟩) ∧ (∀ b o, b < W.heap.size → w1.frozen? ⟨b, o, none⟩ = W.frozen? ⟨b, o, none⟩) :=
  ⟨fun b o h => hb.cell (p := ⟨b, o, none⟩) h, fun b o h => hb.frozen (p := ⟨b, o, none⟩) h⟩

set_option maxHeartbeats 400000 in
theorem ratio_any (n d : Int) (w : World) (hn : -9223372036854775807 ≤ n) (hn2 : n ≤ 9223372036854775807) (hd : 1 ≤ d) (hd2 : d ≤ 9223372036854775807) :
    Calls Tryd.prog 34 #[.int .i64 n, .int .i64 d] w fun e w' => e = .returned (ratV n d) ∧ Below w.heap.size w w' := by
  have hg := gcd_pos_of n d hd
  have hgd : (Int.gcd n d : Int) ≤ d := Int.le_of_dvd (by omega) (Int.gcd_dvd_right n d)
  have hq1 : Hid (n.tdiv (Int.gcd n d) = n / Int.gcd n d) := Int.tdiv_eq_ediv_of_dvd (Int.gcd_dvd_left n d)
  have HG := Lib.hid (gcd_max_neg n d)
  have hcase : n < 0 ∨ 0 ≤ n := by omega
  rcases hcase with h | h
  · go_enter Tryd.func34, Tryd.ntmps34
    have h' : ¬ -n ≤ n := by omega
    go_wp2_with fail
    refine (gcd_any _ _ _ (by omega) (by omega)).mono ?_
    rintro e w1 ⟨rfl, hb1⟩
    rw [Int.neg_gcd]
    obtain ⟨hc, hf⟩ := bcell hb1
    have hB : Below w.heap.size w w1 := Below.trans (by go_grown) (hb1.mono (by simp))
    generalize hG : Int.gcd n d = g at *
    have HE := Lib.hid hG
    clear hG
    go_wp2
    go_region
    go_wp2
    refine bodyPost_ret (v := .agg #[.int .i64 (n.tdiv g), .int .i64 (d / g)]) (by simp [results, Tryd.results34, go_sem, hc]) rfl ?_
    exact ⟨by unfold ratV; rw [HE.out, ← hq1.out], by go_grown⟩
  · go_enter Tryd.func34, Tryd.ntmps34
    have h' : -n ≤ n := by omega
    go_wp2_with fail
    refine (gcd_any _ _ _ (by omega) (by omega)).mono ?_
    rintro e w1 ⟨rfl, hb1⟩
    obtain ⟨hc, hf⟩ := bcell hb1
    have hB : Below w.heap.size w w1 := Below.trans (by go_grown) (hb1.mono (by simp))
    generalize hG : Int.gcd n d = g at *
    have HE := Lib.hid hG
    clear hG
    go_wp2
    go_region
    go_wp2
    refine bodyPost_ret (v := .agg #[.int .i64 (n / g), .int .i64 (d / g)]) (by simp [results, Tryd.results34, go_sem, hc]) rfl ?_
    exact ⟨by unfold ratV; rw [HE.out], by go_grown⟩
end Go.Proofs.YtbnnackoakhmdaaDoor

/- A call that is known: math/bits.TrailingZeros64 at a number that is known: what its table holds. -/
namespace Go.Proofs.YtbnnackoakhmdaaDoor.Cx
set_option linter.unusedSimpArgs false
set_option linter.unusedVariables false
set_option maxRecDepth 100000
open Go Go.RowKit Go.Proofs.YtbnnackoakhmdaaDoor

def tzT : List Int := [0, 1, 56, 2, 57, 49, 28, 3, 61, 58, 42, 50, 38, 29, 17, 4, 62, 47, 59, 36, 45, 43, 51, 22, 53, 39, 33, 30, 24, 18, 12, 5, 63, 55, 48, 27, 60, 41, 37, 16, 46, 35, 44, 21, 52, 32, 23, 11, 54, 26, 40, 15, 34, 20, 31, 10, 25, 14, 19, 9, 13, 8, 7, 6]
def tzI (x : Int) : Int := IntKind.u64.wrap (bits BinOp.and IntKind.u64 x (IntKind.u64.wrap (-x)) * 285870213051353865) / 288230376151711744
def tzV (x : Int) : Int := tzT.getD (tzI x).toNat 0

theorem tzI_rng (x : Int) : 0 ≤ tzI x ∧ tzI x < 64 := by
  have h : ∀ y, 0 ≤ IntKind.u64.wrap y ∧ IntKind.u64.wrap y < 18446744073709551616 := fun y => by
    unfold IntKind.wrap
    simp [IntKind.bits, IntKind.signed]
    omega
  unfold tzI
  have := h (bits BinOp.and IntKind.u64 x (IntKind.u64.wrap (-x)) * 285870213051353865)
  omega

theorem lay_tz : ∃ cs, (1, cs) ∈ lay ∧ cs = (tzT.map (fun n => Value.int .u8 n)).toArray := ⟨_, by first | exact .head _ | exact .tail _ (.head _), by kernel_rfl⟩

theorem tz_cell {w : World} (hL : Laid w) {i : Nat} (hi : i < 64) : w.cell? ⟨1, i, none⟩ = some (.int .u8 (tzT.getD i 0)) := by
  obtain ⟨cs, hm, rfl⟩ := lay_tz
  obtain ⟨t, ht⟩ := hL _ hm
  have hs : i < tzT.length := hi
  rw [cell_at ht, List.getElem?_toArray, List.getElem?_map, List.getElem?_eq_getElem hs]
  simp [List.getD_eq_getElem?_getD, List.getElem?_eq_getElem hs]

set_option maxHeartbeats 400000 in
theorem tz_run (x : Int) (h0 : x ≠ 0) (w : World) (hL : Laid w) : Calls Tryd.prog 68 #[.int .u64 x] w fun e w' => e = .returned (.int .i64 (tzV x)) ∧ w = w' := by
  have hr := tzI_rng x
  have hc := tz_cell hL (i := (tzI x).toNat) (by omega)
  have hT : tzV x = tzT.getD (tzI x).toNat 0 := rfl
  rw [hT]
  have hb : 0 ≤ tzT.getD (tzI x).toNat 0 ∧ tzT.getD (tzI x).toNat 0 < 256 := by
    have : ∀ i : Fin 64, 0 ≤ tzT.getD i.1 0 ∧ tzT.getD i.1 0 < 256 := by decide
    exact this ⟨(tzI x).toNat, by omega⟩
  generalize tzT.getD (tzI x).toNat 0 = v at hc hb ⊢
  unfold tzI at hr hc
  go_enter Tryd.func68, Tryd.ntmps68
  go_wp2
  go_returns
  exact ⟨rfl, rfl⟩

theorem tz_fn : ∃ fn, Tryd.prog.funcs[68]? = some fn ∧ fn.body.isSome = true := ⟨_, Tryd.func68, rfl⟩

/-- At numbers that are known. -/
noncomputable def memoTz (m : Memo) : Memo := fun f args s =>
  match args with
  | [.int .u64 (.c x)] => bif Nat.beq f 68 && !decide (x = 0) then some (.int .i64 (.c (tzV x)), s, [], []) else m f args s
  | _ => m f args s

theorem memoTz_ok {ρ : Env} {m : Memo} (hm : MemoOk Tryd.prog (ctxOf Tryd.prog m) ρ) : MemoOk Tryd.prog (ctxOf Tryd.prog (memoTz m)) ρ := by
  have old : ∀ f args s c s' R W, m f args s = some (c, s', R, W) → CallOk Tryd.prog (ctxOf Tryd.prog (memoTz m)) ρ f args s c s' R W := fun f args s c s' R W h0 => by
    have k := hm f args s c s' R W h0
    exact ⟨k.fn, k.frm, k.lt, k.run⟩
  intro f args s c s' R W hq
  have hq' : memoTz m f args s = some (c, s', R, W) := hq
  unfold memoTz at hq'
  split at hq'
  · rename_i x
    cases hf : (Nat.beq f 68 && !decide (x = 0)) with
    | false => rw [hf, cond_false] at hq'; exact old _ _ _ _ _ _ _ hq'
    | true =>
      rw [hf, cond_true] at hq'
      simp only [Bool.and_eq_true, Bool.not_eq_true', decide_eq_false_iff_not] at hf
      obtain rfl : f = 68 := Nat.eq_of_beq_eq_true hf.1
      cases hq'
      refine ⟨tz_fn, Frm.refl _ _, ⟨fun b hb => by simp at hb, fun b hb => by simp at hb⟩, ?_⟩
      intro n σ cur w args' hp hargs hH hA hN
      obtain ⟨v, e0, hv⟩ : ∃ v, args' = #[v] ∧ VR ρ σ (.int .u64 (.c x)) v := by
        obtain ⟨l⟩ := args'
        cases hargs with
        | cons hv hr => cases hr; exact ⟨_, rfl, hv⟩
      subst e0
      cases hv
      have := (callsIn_wide (n := n)).2 (tz_run x hf.2 w hH.laid)
      refine CallsIn.mono (F := fc none) this ?_
      rintro e w' ⟨rfl, rfl⟩
      refine ⟨_, rfl, σ, Ext.refl _ _ _, .int .i64 (.c _), ?_, Keeps.refl _ _ _ _, Fresh.none _ _ _ _ _ _⟩
      rw [upd_none]
      exact hH
  · exact old _ _ _ _ _ _ _ hq'
end Go.Proofs.YtbnnackoakhmdaaDoor.Cx

/- CALLS THAT ARE RUN: a function that has an automaton, called with numbers that are known, yields what its automaton's run yields; the kernel runs that in place of the evaluator. -/
namespace Go.Proofs.YtbnnackoakhmdaaDoor.Cx
set_option linter.unusedSimpArgs false
set_option linter.unusedVariables false
open Go Go.RowKit

theorem St.musts_eq : ∀ (l : List Bool) (s : St), s.musts l = some { s with pc := (l.reverse.map fun b => .b (.x b) true) ++ s.pc }
  | [], s => rfl
  | b :: l, s => by
    show (match s.must (.x b) with | some s => s.musts l | none => none) = _
    have : s.must (.x b) = some { s with pc := .b (.x b) true :: s.pc } := rfl
    rw [this]
    show St.musts _ l = _
    rw [St.musts_eq l]
    simp

def rowKs : List (Option IntKind) → List CV → Bool
  | [], [] => true
  | some k :: ks, .int k' (.c _) :: l => decide (k = k') && rowKs ks l
  | none :: ks, .bool (.c _) :: l => rowKs ks l
  | _, _ => false

theorem rowKs_ok (row : List CV) (i : Nat) : ∀ (ks : List (Option IntKind)) (l pre : List CV), row = pre ++ l → rowKs ks l = true → CV.nrml l = rowCs (fun j _ => (row.getD j .junk).numD) (fun j _ => (row.getD j .junk).bitD) i ks pre.length
  | [], [], pre, _, _ => rfl
  | [], c :: l, pre, _, h => by simp [rowKs] at h
  | some k :: ks, [], pre, _, h => by simp [rowKs] at h
  | none :: ks, [], pre, _, h => by simp [rowKs] at h
  | some k :: ks, c :: l, pre, e, h => by
    unfold rowKs at h
    split at h
    · rename_i h1 h2; cases h1
    · rename_i k0 ks0 k' n l0 h1 h2
      cases h1; cases h2
      simp only [Bool.and_eq_true, decide_eq_true_eq] at h
      obtain ⟨rfl, h⟩ := h
      have ih := rowKs_ok row i ks l (pre ++ [.int k (.c n)]) (by rw [e]; simp) h
      rw [List.length_append, List.length_singleton] at ih
      have hg : (row.getD pre.length .junk).numD = n := by rw [e]; simp [CV.numD, IE.num]
      show CV.int k (.x n) :: CV.nrml l = CV.int k (.x ((row.getD pre.length .junk).numD)) :: _
      rw [ih, hg]
    · rename_i h1 h2; cases h1
    · cases h
  | none :: ks, c :: l, pre, e, h => by
    unfold rowKs at h
    split at h
    · rename_i h1 h2; cases h1
    · rename_i h1 h2; cases h1
    · rename_i ks0 b l0 h1 h2
      cases h1; cases h2
      have ih := rowKs_ok row i ks l (pre ++ [.bool (.c b)]) (by rw [e]; simp) h
      rw [List.length_append, List.length_singleton] at ih
      have hg : (row.getD pre.length .junk).bitD = b := by rw [e]; simp [CV.bitD, BE.val]
      show CV.bool (.x b) :: CV.nrml l = CV.bool (.x ((row.getD pre.length .junk).bitD)) :: _
      rw [ih, hg]
    · cases h

theorem rowCs_at {c c' : Nat → Nat → Int} {g g' : Nat → Nat → Bool} (i : Nat) : ∀ (ks : List (Option IntKind)) (j : Nat), (∀ j, c j i = c' j i) → (∀ j, g j i = g' j i) → rowCs c g i ks j = rowCs c' g' i ks j
  | [], _, _, _ => rfl
  | some k :: ks, j, h1, h2 => by simp only [rowCs]; rw [h1, rowCs_at i ks (j + 1) h1 h2]
  | none :: ks, j, h1, h2 => by simp only [rowCs]; rw [h2, rowCs_at i ks (j + 1) h1 h2]

/-- Rows of numbers that are known, of these kinds. -/
noncomputable def rowsChk (s : St) (ks : List (Option IntKind)) : CV → Bool
  | .slc none _ _ => true
  | .emp => true
  | .slc (some (b, o)) n c => match s.heap.get b with
    | some ⟨.lit l, _, _, _⟩ => (List.range n).all fun i => rowKs ks ((l.drop (o + i * ks.length)).take ks.length)
    | _ => false
  | _ => false

theorem rowsChk_ok {s : St} {ks : List (Option IntKind)} {c : CV} {t : Tab} {sh : List Bool} {R : List Nat} (h : rowsOf s ks c = some (t, sh, R)) (hc : rowsChk s ks c = true) : ∀ b ∈ sh, b = true := by
  unfold rowsChk at hc
  split at hc
  · unfold rowsOf at h; cases h; intro b hb; cases hb
  · unfold rowsOf at h; cases h; intro b hb; cases hb
  · rename_i b o n cp
    split at hc
    · rename_i l e live x hk
      unfold rowsOf at h
      simp only [hk] at h
      cases live with
      | false => cases h
      | true =>
        simp only at h
        generalize hg : (Nat.ble (o + n * ks.length) l.length && Nat.ble n cp && Nat.blt b s.next) = g at h
        cases g with
        | false => cases h
        | true =>
          rw [cond_true] at h
          cases h
          intro y hy
          obtain rfl := List.mem_singleton.1 hy
          refine shape_ok fun i hi => ?_
          have hi : i < n := hi
          have := List.all_eq_true.1 hc i (List.mem_range.2 hi)
          have := rowKs_ok ((l.drop (o + i * ks.length)).take ks.length) i ks ((l.drop (o + i * ks.length)).take ks.length) [] rfl this
          rw [this]
          exact rowCs_at _ _ _ (fun _ => rfl) (fun _ => rfl)
    · cases hc
  · cases hc

noncomputable def AQ.chk (s : St) : List AQ → List CV → Bool
  | [], _ => true
  | .rows ks :: l, c :: m => rowsChk s ks c && AQ.chk s l m
  | .int _ :: l, _ :: m => AQ.chk s l m
  | .bool :: l, _ :: m => AQ.chk s l m
  | _, _ => false

theorem AQ.chk_ok {s : St} : ∀ {ps : List AQ} {args : List CV} {g a : AG}, AQ.gets s ps args g = some a → AQ.chk s ps args = true → (∀ b ∈ g.sh, b = true) → ∀ b ∈ a.sh, b = true
  | [], args, g, a, h, hc, hg => by
    cases args <;> simp only [AQ.gets] at h <;> try (cases h; done)
    cases h; exact hg
  | p :: l, args, g, a, h, hc, hg => by
    cases args with
    | nil => simp only [AQ.gets] at h; cases h
    | cons c m =>
      simp only [AQ.gets] at h
      cases hp : AQ.get s p c g with
      | none => rw [hp] at h; cases h
      | some g1 =>
        rw [hp] at h
        cases p with
        | int k =>
          refine AQ.chk_ok (ps := l) h hc ?_
          cases c <;> simp only [AQ.get] at hp <;> try (cases hp; done)
          rename_i k' e
          cases hk : decide (k = k') with
          | false => rw [hk] at hp; cases hp
          | true =>
            rw [hk, cond_true] at hp
            split at hp
            · cases hp; exact hg
            · cases hp
        | bool =>
          refine AQ.chk_ok (ps := l) h hc ?_
          cases c <;> simp only [AQ.get] at hp <;> try (cases hp; done)
          split at hp
          · cases hp; exact hg
          · cases hp
        | agg q => cases hc
        | rows ks =>
          simp only [AQ.chk, Bool.and_eq_true] at hc
          refine AQ.chk_ok (ps := l) h hc.2 ?_
          simp only [AQ.get] at hp
          split at hp
          · rename_i t sh R hr
            cases hp
            intro b hb
            rcases List.mem_append.1 hb with hb | hb
            · exact hg b hb
            · exact rowsChk_ok hr hc.1 b hb
          · cases hp

section
variable {P : Program} {ρ : Env}

noncomputable def memoSC {N R : Type} [Inhabited R] (g : Nat) (ps : List AQ) (F : AW → AF N R) (out : R → CV) (fuel : Nat) (inner : Memo) : Memo := fun f args s =>
  bif Nat.beq f g then
    match AQ.gets s ps args ⟨⟨[], [], []⟩, [], []⟩ with
    | some a => match (F a.v).run fuel with
      | some r => bif AQ.chk s ps args then some (out r, s, a.R, []) else none
      | none => none
    | none => inner f args s
  else inner f args s

theorem memoSC_ok {N R : Type} [Inhabited R] {g : Nat} {ps : List AQ} {F : AW → AF N R} {rw' : R → CV} {hw : R → List (Nat × Blk)} {nw : Nat} {inner : Memo} {out : R → CV} {fuel : Nat} (K : KnownS P ρ g ps F rw' hw nw) (hm : ∀ a, (F a).Mono) (hn : nw = (AQ.ksss ps).length) (hh : ∀ r, hw r = [])
    (ho : ∀ r f σ v, VR ρ σ ((rw' r).ren f) v → VR ρ σ (out r) v) (hi : MemoOk P (ctxOf P inner) ρ) : MemoOk P (ctxOf P (memoSC g ps F out fuel inner)) ρ := by
  intro f args s c s' R' W h0
  have h : memoSC g ps F out fuel inner f args s = some (c, s', R', W) := h0
  clear h0
  have lift : ∀ {f args s c s' R' W}, CallOk P (ctxOf P inner) ρ f args s c s' R' W → CallOk P (ctxOf P (memoSC g ps F out fuel inner)) ρ f args s c s' R' W := fun h => ⟨h.fn, h.frm, h.lt, h.run⟩
  unfold memoSC at h
  cases hf : Nat.beq f g with
  | false => rw [hf, cond_false] at h; exact lift (hi _ _ _ _ _ _ _ h)
  | true =>
    rw [hf, cond_true] at h
    split at h
    · rename_i a ha
      split at h
      · rename_i r hr
        cases hsh : AQ.chk s ps args with
        | false => rw [hsh] at h; cases h
        | true =>
          rw [hsh] at h
          cases h
          obtain ⟨v1, v2⟩ := AF.val_of (hm a.v) hr
          have e : memoS g ps F rw' hw nw inner f args s = some ((rw' (F a.v).val).ren (liftName (AQ.ksss ps).length s.next), { (⟨s.heap, s.next, s.orc, ((a.sh ++ [(F a.v).fin]).reverse.map fun b => .b (.x b) true) ++ s.pc⟩ : St) with heap := putNew (AQ.ksss ps).length s.next s.heap (hw (F a.v).val), next := s.next + (nw - (AQ.ksss ps).length) }, a.R, []) := by
            unfold memoS
            rw [hf, cond_true, ha]
            simp only [St.musts_eq]
          have k := memoS_ok K hi f args s _ _ _ _ e
          refine ⟨k.fn, Frm.refl _ _, k.lt, ?_⟩
          intro n σ cur w args' hp hargs hH hA hN
          have hs : s.next + (nw - (AQ.ksss ps).length) = s.next := by omega
          have hpc : ∀ p ∈ ((a.sh ++ [(F a.v).fin]).reverse.map fun b => PC.b (.x b) true) ++ s.pc, p.holds ρ := by
            intro p hp'
            rcases List.mem_append.1 hp' with hp' | hp'
            · obtain ⟨b, hb, rfl⟩ := List.mem_map.1 hp'
              rcases List.mem_append.1 (List.mem_reverse.1 hb) with hb | hb
              · exact AQ.chk_ok ha hsh (fun b hb => by cases hb) b hb
              · obtain rfl := List.mem_singleton.1 hb
                exact v1
            · exact hp p hp'
          have := k.run n σ cur w args' hpc hargs hH hA (fun b h1 h2 => by
            have h2 : b < s.next + (nw - (AQ.ksss ps).length) := h2
            omega)
          refine this.mono ?_
          rintro e' w' ⟨v, rfl, σ', h1, h2, h3, h4, h5⟩
          have h1 : Ext σ σ' s.next (s.next + (nw - (AQ.ksss ps).length)) := h1
          have h3 : HR ρ σ' (upd cur s.next (s.next + (nw - (AQ.ksss ps).length)) (putNew (AQ.ksss ps).length s.next s.heap (hw (F a.v).val)) []) w' := h3
          have h5 : Fresh σ σ' s.next (s.next + (nw - (AQ.ksss ps).length)) s.next [] w := h5
          rw [hs] at h1 h3 h5
          rw [hh] at h3
          rw [v2] at h2
          exact ⟨v, rfl, σ', h1, ho r _ _ _ h2, h3, h4, h5⟩
      · cases h
    · exact lift (hi _ _ _ _ _ _ _ h)

noncomputable def memoAC {N R : Type} [Inhabited R] (g : Nat) (ps : List AP) (F : AV → AF N R) (out : R → CV) (fuel : Nat) (inner : Memo) : Memo := fun f args s =>
  bif Nat.beq f g then
    match AP.gets ps args ⟨[], []⟩ with
    | some a => match (F a).run fuel with
      | some r => some (out r, s, [], [])
      | none => none
    | none => inner f args s
  else inner f args s

theorem memoAC_ok {N R : Type} [Inhabited R] {g : Nat} {ps : List AP} {F : AV → AF N R} {inner : Memo} {out : R → CV} {fuel : Nat} (K : KnownA P ρ g ps F) (hm : ∀ a, (F a).Mono)
    (ho : ∀ a r σ v, VR ρ σ ((F a).rc r) v → VR ρ σ (out r) v) (hi : MemoOk P (ctxOf P inner) ρ) : MemoOk P (ctxOf P (memoAC g ps F out fuel inner)) ρ := by
  intro f args s c s' R' W h0
  have h : memoAC g ps F out fuel inner f args s = some (c, s', R', W) := h0
  clear h0
  have lift : ∀ {f args s c s' R' W}, CallOk P (ctxOf P inner) ρ f args s c s' R' W → CallOk P (ctxOf P (memoAC g ps F out fuel inner)) ρ f args s c s' R' W := fun h => ⟨h.fn, h.frm, h.lt, h.run⟩
  unfold memoAC at h
  cases hf : Nat.beq f g with
  | false => rw [hf, cond_false] at h; exact lift (hi _ _ _ _ _ _ _ h)
  | true =>
    rw [hf, cond_true] at h
    split at h
    · rename_i a ha
      split at h
      · rename_i r hr
        cases h
        obtain ⟨v1, v2⟩ := AF.val_of (hm a) hr
        have e : memoA g ps F inner f args s = some ((F a).rc (F a).val, ⟨s.heap, s.next, s.orc, .b (.x (F a).fin) true :: s.pc⟩, [], []) := by
          unfold memoA
          rw [hf, cond_true, ha]
          rfl
        have k := memoA_ok K hi f args s _ _ _ _ e
        refine ⟨k.fn, Frm.refl _ _, ⟨fun b hb => by simp at hb, fun b hb => by simp at hb⟩, ?_⟩
        intro n σ cur w args' hp hargs hH hA hN
        have hpc : ∀ p ∈ (PC.b (.x (F a).fin) true :: s.pc), p.holds ρ := by
          intro p hp'
          rcases List.mem_cons.1 hp' with rfl | hp'
          · exact v1
          · exact hp p hp'
        have := k.run n σ cur w args' hpc hargs hH hA (fun b h1 h2 => by
          have h2 : b < s.next := h2
          omega)
        refine this.mono ?_
        rintro e' w' ⟨v, rfl, σ', h1, h2, h3, h4, h5⟩
        rw [v2] at h2
        exact ⟨v, rfl, σ', h1, ho _ r _ _ h2, h3, h4, h5⟩
      · cases h
    · exact lift (hi _ _ _ _ _ _ _ h)

theorem vr_int {σ : Mp} {k : IntKind} {n : Int} {v : Value} (h : VR ρ σ (.int k (.x n)) v) : VR ρ σ (.int k (.c n)) v := by
  obtain rfl := h.int_inv
  exact .int k (.c n)
end
end Go.Proofs.YtbnnackoakhmdaaDoor.Cx

/- (acme/lot.set).pieces as an automaton. Made by tools/cxauto.py. -/
namespace Go.Proofs.YtbnnackoakhmdaaDoor.Cx
set_option linter.unusedVariables false
set_option linter.unusedSimpArgs false
set_option maxRecDepth 100000
open Go Go.Proofs Go.RowKit

noncomputable abbrev lpcCode : Code := funcCode Tryd.f50


inductive lpcN where
  | n0 (p0 : Int) (p1 : Int)

abbrev lpcR := Int

noncomputable def lpcD0 (a0 : Int) (a1 : Nat) (a2 : Nat → Int) : DD (Lf lpcN lpcR) :=
 .leaf (.next (.n0 0 0) [])

noncomputable def lpcD (a0 : Int) (a1 : Nat) (a2 : Nat → Int) : lpcN → DD (Lf lpcN lpcR)
 | .n0 p0 p1 =>
 .ask (Cm.run Cm.lss p1 (↑a1 : Int))
   (.must (decide (0 ≤ p1))
   (.must (decide (p1 < (↑a1 : Int)))
   (.must (decide (0 + Int.toNat p1 < a1))
   (.must (Cm.run Cm.geq p1 0)
   (.ask (Cm.run Cm.neq (Ar.run Ar.and IntKind.u64 (Ar.run Ar.shr IntKind.u64 a0 p1) 1) 0)
   (.leaf (.next (.n0 (Ar.run Ar.add IntKind.i64 p0 (a2 (0 + Int.toNat p1))) (Ar.run Ar.add IntKind.i64 p1 1)) []))
   (.leaf (.next (.n0 p0 (Ar.run Ar.add IntKind.i64 p1 1)) [])))))))
   (.leaf (.done p0 []))

noncomputable def lpcA (a0 : Int) (a1 : Nat) (a2 : Nat → Int) : AF lpcN lpcR where
  code := lpcCode
  base := 1
  nt := 25
  m := 400
  un := []
  W := []
  h0 := [(0, ⟨.arg a1 1 (fun i => [.int .i64 (.x (a2 i))]) (fun _ => ⟨rfl, rfl⟩), 1, true, none⟩)]
  args := [.int .u64 (.x a0), .sla 0 1 0 a1]
  res := (Tryd.f50).results.toList
  path := fun a => match a with
   | .n0 p0 p1 => [1, 1, 0, 1, 0]
  pd := fun a => match a with
   | .n0 p0 p1 => ⟨[(0, .int .u64 (.x a0)), (5, .int .i64 (.x p0)), (8, .sla 0 1 0 a1), (9, .int .i64 (.x (↑a1))), (10, .int .i64 (.x p1))], [], 1, []⟩
  D0 := lpcD0 a0 a1 a2
  D := lpcD a0 a1 a2
  rc := (fun v => .int .i64 (.x v))
  rh := (fun v => [])
  rn := (fun v => 1)
  rx := (fun v => [])
  rgo := (fun _ => none)


theorem lpcstart (a0 : Int) (a1 : Nat) (a2 : Nat → Int) : AF.edgeOk (lpcA a0 a1 a2) (ctxOf Tryd.prog memo0) (lpcD0 a0 a1 a2) (AF.run0 (lpcA a0 a1 a2) (ctxOf Tryd.prog memo0)) := by unfold AF.edgeOk; kernel_rfl

theorem lpcnode0 (a0 : Int) (a1 : Nat) (a2 : Nat → Int) (p0 : Int) (p1 : Int) : AF.edgeOk (lpcA a0 a1 a2) (ctxOf Tryd.prog memo0) (lpcD a0 a1 a2 (.n0 p0 p1)) (AF.runN (lpcA a0 a1 a2) (ctxOf Tryd.prog memo0) (.n0 p0 p1)) := by unfold AF.edgeOk; kernel_rfl

theorem lpcok (a0 : Int) (a1 : Nat) (a2 : Nat → Int) : (lpcA a0 a1 a2).Ok Tryd.prog (ctxOf Tryd.prog memo0) where
  regs := by kernel_rfl
  h0 := by kernel_rfl
  start := lpcstart a0 a1 a2
  node := fun a _ => match a with
   | .n0 p0 p1 => lpcnode0 a0 a1 a2 p0 p1
  pd := fun a => match a with
   | .n0 p0 p1 => ⟨(fa_cons rfl (fa_cons rfl (fa_cons rfl (fa_cons rfl (fa_cons rfl fa_nil))))), fa_nil, fa_nil, rfl⟩
  le := fun a => match a with
   | .n0 p0 p1 => Nat.le_of_ble_eq_true rfl
  rd := fun v => ⟨⟨fa_nil, fa_nil, fa_nil, rfl⟩, rfl⟩
  wb := rfl


theorem lpchR {ρ : Env} (a0 : Int) (a1 : Nat) (a2 : Nat → Int) (hM : MemoOk Tryd.prog (ctxOf Tryd.prog memo0) ρ) : ∀ X a q n D, FxOk ρ X → X.base = (lpcA a0 a1 a2).base → X.nt = (lpcA a0 a1 a2).nt → X.W = (lpcA a0 a1 a2).W → (lpcA a0 a1 a2).rgo a = some q → q n = some D → (lpcA a0 a1 a2).RangeOk Tryd.prog ρ X a D := AF.noRange rfl

theorem lpcctr {ρ : Env} (a0 : Int) (a1 : Nat) (a2 : Nat → Int) {n : Nat} {v : lpcR} (hM : MemoOk Tryd.prog (ctxOf Tryd.prog memo0) ρ) (hv : (lpcA a0 a1 a2).run n = some v) :
    Ctr Tryd.prog ρ 50 (lpcA a0 a1 a2).args (lpcA a0 a1 a2).H0 (lpcA a0 a1 a2).base (lpcA a0 a1 a2).W ((lpcA a0 a1 a2).rc v) (putH (lpcA a0 a1 a2).H0 ((lpcA a0 a1 a2).rh v ++ (lpcA a0 a1 a2).rx v)) ((lpcA a0 a1 a2).rn v) :=
  AF.ctr try_ok hM (lpcok a0 a1 a2) (fn := Tryd.f50) Tryd.func50 rfl rfl (Nat.le_of_ble_eq_true rfl) rfl (lpchR a0 a1 a2 hM) hv


theorem lpcmem {ρ : Env} : MemoOk Tryd.prog (ctxOf Tryd.prog memo0) ρ := memo0_ok


abbrev lpcP : List AQ := [.int .u64, .rows [some .i64]]

noncomputable def lpcF (v : AW) : AF lpcN lpcR := lpcA (v.i.getD 0 0) (v.t.getD 0 .none).n ((v.t.getD 0 .none).c 0)

noncomputable def lpcW : lpcR → CV := fun v => .int .i64 (.x v)
noncomputable def lpcH : lpcR → List (Nat × Blk) := fun v => []



instance : Inhabited lpcR := ⟨0⟩
theorem lpcknown {ρ : Env} (hM : MemoOk Tryd.prog (ctxOf Tryd.prog memo0) ρ) : KnownS Tryd.prog ρ 50 lpcP lpcF lpcW lpcH 1 where
  fn := ⟨Tryd.f50, Tryd.func50, rfl⟩
  le := Nat.le_of_ble_eq_true rfl
  full := fun r => rfl
  rg := fun r => rfl
  hg := fun r => fa_nil
  ctr := fun v n r h => lpcctr (v.i.getD 0 0) (v.t.getD 0 .none).n ((v.t.getD 0 .none).c 0) hM h

end Go.Proofs.YtbnnackoakhmdaaDoor.Cx

/- acme/lot.choices as an automaton. Made by tools/cxauto.py. -/
namespace Go.Proofs.YtbnnackoakhmdaaDoor.Cx
set_option linter.unusedVariables false
set_option linter.unusedSimpArgs false
set_option maxRecDepth 100000
open Go Go.Proofs Go.RowKit

noncomputable abbrev lchCode : Code := funcCode Tryd.f54


inductive lchN where
  | n0 (p0 : Int) (p1 : Int)

abbrev lchR := Int

noncomputable def lchD0 (a0 : Int) (a1 : Int) : DD (Lf lchN lchR) :=
 .leaf (.next (.n0 1 0) [])

noncomputable def lchD (a0 : Int) (a1 : Int) : lchN → DD (Lf lchN lchR)
 | .n0 p0 p1 =>
 .ask (Cm.run Cm.lss p1 a1)
   (.must (Cm.run Cm.neq (Ar.run Ar.add IntKind.i64 p1 1) 0)
   (.leaf (.next (.n0 (Ar.run Ar.quo IntKind.i64 (Ar.run Ar.mul IntKind.i64 p0 (Ar.run Ar.sub IntKind.i64 a0 p1)) (Ar.run Ar.add IntKind.i64 p1 1)) (Ar.run Ar.add IntKind.i64 p1 1)) [])))
   (.leaf (.done p0 []))

noncomputable def lchA (a0 : Int) (a1 : Int) : AF lchN lchR where
  code := lchCode
  base := 0
  nt := 21
  m := 400
  un := []
  W := []
  h0 := []
  args := [.int .i64 (.x a0), .int .i64 (.x a1)]
  res := (Tryd.f54).results.toList
  path := fun a => match a with
   | .n0 p0 p1 => [1, 1, 0, 1, 0]
  pd := fun a => match a with
   | .n0 p0 p1 => ⟨[(0, .int .i64 (.x a0)), (5, .int .i64 (.x p0)), (7, .int .i64 (.x a1)), (8, .int .i64 (.x p1))], [], 0, []⟩
  D0 := lchD0 a0 a1
  D := lchD a0 a1
  rc := (fun v => .int .i64 (.x v))
  rh := (fun v => [])
  rn := (fun v => 0)
  rx := (fun v => [])
  rgo := (fun _ => none)


theorem lchstart (a0 : Int) (a1 : Int) : AF.edgeOk (lchA a0 a1) (ctxOf Tryd.prog memo0) (lchD0 a0 a1) (AF.run0 (lchA a0 a1) (ctxOf Tryd.prog memo0)) := by unfold AF.edgeOk; kernel_rfl

theorem lchnode0 (a0 : Int) (a1 : Int) (p0 : Int) (p1 : Int) : AF.edgeOk (lchA a0 a1) (ctxOf Tryd.prog memo0) (lchD a0 a1 (.n0 p0 p1)) (AF.runN (lchA a0 a1) (ctxOf Tryd.prog memo0) (.n0 p0 p1)) := by unfold AF.edgeOk; kernel_rfl

theorem lchok (a0 : Int) (a1 : Int) : (lchA a0 a1).Ok Tryd.prog (ctxOf Tryd.prog memo0) where
  regs := by kernel_rfl
  h0 := by kernel_rfl
  start := lchstart a0 a1
  node := fun a _ => match a with
   | .n0 p0 p1 => lchnode0 a0 a1 p0 p1
  pd := fun a => match a with
   | .n0 p0 p1 => ⟨(fa_cons rfl (fa_cons rfl (fa_cons rfl (fa_cons rfl fa_nil)))), fa_nil, fa_nil, rfl⟩
  le := fun a => match a with
   | .n0 p0 p1 => Nat.le_of_ble_eq_true rfl
  rd := fun v => ⟨⟨fa_nil, fa_nil, fa_nil, rfl⟩, rfl⟩
  wb := rfl


theorem lchhR {ρ : Env} (a0 : Int) (a1 : Int) (hM : MemoOk Tryd.prog (ctxOf Tryd.prog memo0) ρ) : ∀ X a q n D, FxOk ρ X → X.base = (lchA a0 a1).base → X.nt = (lchA a0 a1).nt → X.W = (lchA a0 a1).W → (lchA a0 a1).rgo a = some q → q n = some D → (lchA a0 a1).RangeOk Tryd.prog ρ X a D := AF.noRange rfl

theorem lchctr {ρ : Env} (a0 : Int) (a1 : Int) {n : Nat} {v : lchR} (hM : MemoOk Tryd.prog (ctxOf Tryd.prog memo0) ρ) (hv : (lchA a0 a1).run n = some v) :
    Ctr Tryd.prog ρ 54 (lchA a0 a1).args (lchA a0 a1).H0 (lchA a0 a1).base (lchA a0 a1).W ((lchA a0 a1).rc v) (putH (lchA a0 a1).H0 ((lchA a0 a1).rh v ++ (lchA a0 a1).rx v)) ((lchA a0 a1).rn v) :=
  AF.ctr try_ok hM (lchok a0 a1) (fn := Tryd.f54) Tryd.func54 rfl rfl (Nat.le_of_ble_eq_true rfl) rfl (lchhR a0 a1 hM) hv


theorem lchmem {ρ : Env} : MemoOk Tryd.prog (ctxOf Tryd.prog memo0) ρ := memo0_ok


abbrev lchP : List AP := [.int .i64, .int .i64]
noncomputable def lchF (v : AV) : AF lchN lchR := lchA (v.i.getD 0 0) (v.i.getD 1 0)
theorem lchknown {ρ : Env} (hM : MemoOk Tryd.prog (ctxOf Tryd.prog memo0) ρ) : KnownA Tryd.prog ρ 54 lchP lchF where
  fn := ⟨Tryd.f54, Tryd.func54, rfl⟩
  args := fun v => rfl
  plain := fun v r => rfl
  ctr := fun v n r h => lchctr (v.i.getD 0 0) (v.i.getD 1 0) hM h

end Go.Proofs.YtbnnackoakhmdaaDoor.Cx

/- What runs of package lot may take as known: sums, binomials, trailing zeros. -/
namespace Go.Proofs.YtbnnackoakhmdaaDoor.Cx
set_option maxRecDepth 100000
set_option linter.unusedVariables false
open Go Go.Proofs Go.RowKit
noncomputable def lotM : Memo := memoSC 50 lpcP lpcF (fun r => .int .i64 (.c r)) 100 (memoAC 54 lchP lchF (fun r => .int .i64 (.c r)) 100 (memoTz memo0))
theorem lotM_ok {ρ : Env} : MemoOk Tryd.prog (ctxOf Tryd.prog lotM) ρ :=
  memoSC_ok (lpcknown lpcmem) (fun _ => AF.mono_none fun _ => rfl) rfl (fun _ => rfl) (fun _ _ _ _ h => vr_int h) (memoAC_ok (lchknown lchmem) (fun _ => AF.mono_none fun _ => rfl) (fun _ _ _ _ h => vr_int h) (memoTz_ok memo0_ok))
end Go.Proofs.YtbnnackoakhmdaaDoor.Cx

/- Calls that acme/acmelaw11.known makes, each known by a run of its own. Made by tools/cxkcalls.py. -/
namespace Go.Proofs.YtbnnackoakhmdaaDoor.Cx
set_option maxRecDepth 100000
set_option linter.unusedVariables false
open Go Go.Proofs Go.RowKit

def CxKn11K0 : KCall := ⟨8, [.slc (some (0, 0)) 3 3], [([.slc (some (1, 0)) 3 3, .slc (some (2, 0)) 3 3, .slc (some (3, 0)) 3 3], 1), ([.int .i64 (.c 0), .int .i64 (.c 0), .int .i64 (.c 2)], 1), ([.int .i64 (.c 1), .int .i64 (.c 0), .int .i64 (.c 0)], 1), ([.int .i64 (.c 1), .int .i64 (.c 1), .int .i64 (.c 1)], 1)], .tup [.slc none 0 0, .int .i64 (.c 0)], []⟩
theorem CxKn11K0_run : CxKn11K0.says (eval (ctxOf Tryd.prog lotM) 1000 CxKn11K0.blks.length (.call CxKn11K0.g CxKn11K0.args) ⟨hB CxKn11K0.blks 0, CxKn11K0.blks.length, [], []⟩) = true := by kernel_rfl
theorem CxKn11K0_ok {ρ : Env} : CxKn11K0.Ok Tryd.prog ρ := KCall.of_run try_ok lotM_ok (by kernel_rfl) (by kernel_rfl) (by kernel_rfl) CxKn11K0_run

def CxKn11K1 : KCall := ⟨10, [.slc (some (0, 0)) 3 3], [([.slc (some (1, 0)) 3 3, .slc (some (2, 0)) 3 3, .slc (some (3, 0)) 3 3], 1), ([.int .i64 (.c 0), .int .i64 (.c 0), .int .i64 (.c 2)], 1), ([.int .i64 (.c 1), .int .i64 (.c 0), .int .i64 (.c 0)], 1), ([.int .i64 (.c 1), .int .i64 (.c 1), .int .i64 (.c 1)], 1)], .tup [.int .i64 (.c 2), .int .i64 (.c 0)], []⟩
theorem CxKn11K1_run : CxKn11K1.says (eval (ctxOf Tryd.prog lotM) 1000 CxKn11K1.blks.length (.call CxKn11K1.g CxKn11K1.args) ⟨hB CxKn11K1.blks 0, CxKn11K1.blks.length, [], []⟩) = true := by kernel_rfl
theorem CxKn11K1_ok {ρ : Env} : CxKn11K1.Ok Tryd.prog ρ := KCall.of_run try_ok lotM_ok (by kernel_rfl) (by kernel_rfl) (by kernel_rfl) CxKn11K1_run

end Go.Proofs.YtbnnackoakhmdaaDoor.Cx

/- Calls that acme/acmelaw11.known makes, each known by a run of its own. Made by tools/cxkcalls.py. -/
namespace Go.Proofs.YtbnnackoakhmdaaDoor.Cx
set_option maxRecDepth 100000
set_option linter.unusedVariables false
open Go Go.Proofs Go.RowKit

def CxKn11K2 : KCall := ⟨11, [.slc (some (0, 0)) 3 3], [([.slc (some (1, 0)) 3 3, .slc (some (2, 0)) 3 3, .slc (some (3, 0)) 3 3], 1), ([.int .i64 (.c 0), .int .i64 (.c 0), .int .i64 (.c 2)], 1), ([.int .i64 (.c 1), .int .i64 (.c 0), .int .i64 (.c 0)], 1), ([.int .i64 (.c 1), .int .i64 (.c 1), .int .i64 (.c 1)], 1)], .tup [.slc (some (4, 0)) 5 5, .int .i64 (.c 0)], [(231, ([.int .i64 (.c 0), .int .i64 (.c (-1)), .int .i64 (.c 1), .int .i64 (.c 2), .int .i64 (.c (-1)), .int .i64 (.c 0), .int .i64 (.c (-1)), .int .i64 (.c (-1)), .int .i64 (.c 1), .int .i64 (.c (-1)), .int .i64 (.c 3), .int .i64 (.c 4), .int .i64 (.c (-1)), .int .i64 (.c 1), .int .i64 (.c (-1)), .int .i64 (.c (-1)), .int .i64 (.c (-1)), .int .i64 (.c 2), .int .i64 (.c (-1)), .int .i64 (.c (-1))], 4))]⟩
theorem CxKn11K2_run : CxKn11K2.says (eval (ctxOf Tryd.prog lotM) 1000 CxKn11K2.blks.length (.call CxKn11K2.g CxKn11K2.args) ⟨hB CxKn11K2.blks 0, CxKn11K2.blks.length, [], []⟩) = true := by kernel_rfl
theorem CxKn11K2_ok {ρ : Env} : CxKn11K2.Ok Tryd.prog ρ := KCall.of_run try_ok lotM_ok (by kernel_rfl) (by kernel_rfl) (by kernel_rfl) CxKn11K2_run

def CxKn11K3 : KCall := ⟨12, [.slc (some (0, 0)) 3 3, .slc (some (1, 0)) 3 3], [([.slc (some (2, 0)) 3 3, .slc (some (3, 0)) 3 3, .slc (some (4, 0)) 3 3], 1), ([.int .i64 (.c 1), .int .i64 (.c 5), .int .i64 (.c 20)], 1), ([.int .i64 (.c 0), .int .i64 (.c 0), .int .i64 (.c 0)], 1), ([.int .i64 (.c 1), .int .i64 (.c 0), .int .i64 (.c 0)], 1), ([.int .i64 (.c 1), .int .i64 (.c 1), .int .i64 (.c 1)], 1)], .tup [.int .i64 (.c 32), .int .i64 (.c 0)], []⟩
theorem CxKn11K3_run : CxKn11K3.says (eval (ctxOf Tryd.prog lotM) 1000 CxKn11K3.blks.length (.call CxKn11K3.g CxKn11K3.args) ⟨hB CxKn11K3.blks 0, CxKn11K3.blks.length, [], []⟩) = true := by kernel_rfl
theorem CxKn11K3_ok {ρ : Env} : CxKn11K3.Ok Tryd.prog ρ := KCall.of_run try_ok lotM_ok (by kernel_rfl) (by kernel_rfl) (by kernel_rfl) CxKn11K3_run

end Go.Proofs.YtbnnackoakhmdaaDoor.Cx

/- Calls that acme/acmelaw11.known makes, each known by a run of its own. Made by tools/cxkcalls.py. -/
namespace Go.Proofs.YtbnnackoakhmdaaDoor.Cx
set_option maxRecDepth 100000
set_option linter.unusedVariables false
open Go Go.Proofs Go.RowKit

def CxKn11K4 : KCall := ⟨13, [.slc (some (0, 0)) 3 3, .int .i64 (.c 10), .slc (some (1, 0)) 3 3], [([.slc (some (2, 0)) 3 3, .slc (some (3, 0)) 3 3, .slc (some (4, 0)) 3 3], 1), ([.int .i64 (.c 6), .int .i64 (.c 2), .int .i64 (.c 5)], 1), ([.int .i64 (.c 0), .int .i64 (.c 0), .int .i64 (.c 2)], 1), ([.int .i64 (.c 1), .int .i64 (.c 0), .int .i64 (.c 0)], 1), ([.int .i64 (.c 1), .int .i64 (.c 1), .int .i64 (.c 1)], 1)], .tup [.slc (some (5, 0)) 3 3, .int .i64 (.c 0)], [(234, ([.int .i64 (.c 4), .int .i64 (.c 4), .int .i64 (.c 4), .int .i64 (.c 4), .int .i64 (.c 2), .int .i64 (.c 2)], 2))]⟩
theorem CxKn11K4_run : CxKn11K4.says (eval (ctxOf Tryd.prog lotM) 1000 CxKn11K4.blks.length (.call CxKn11K4.g CxKn11K4.args) ⟨hB CxKn11K4.blks 0, CxKn11K4.blks.length, [], []⟩) = true := by kernel_rfl
theorem CxKn11K4_ok {ρ : Env} : CxKn11K4.Ok Tryd.prog ρ := KCall.of_run try_ok lotM_ok (by kernel_rfl) (by kernel_rfl) (by kernel_rfl) CxKn11K4_run

def CxKn11K5 : KCall := ⟨13, [.slc (some (0, 0)) 3 3, .int .i64 (.c 10), .slc (some (1, 0)) 3 3], [([.slc (some (2, 0)) 3 3, .slc (some (3, 0)) 3 3, .slc (some (4, 0)) 3 3], 1), ([.int .i64 (.c 6), .int .i64 (.c 2), .int .i64 (.c 7)], 1), ([.int .i64 (.c 0), .int .i64 (.c 0), .int .i64 (.c 2)], 1), ([.int .i64 (.c 1), .int .i64 (.c 0), .int .i64 (.c 0)], 1), ([.int .i64 (.c 1), .int .i64 (.c 1), .int .i64 (.c 1)], 1)], .tup [.slc none 0 0, .int .i64 (.c 9)], []⟩
theorem CxKn11K5_run : CxKn11K5.says (eval (ctxOf Tryd.prog lotM) 1000 CxKn11K5.blks.length (.call CxKn11K5.g CxKn11K5.args) ⟨hB CxKn11K5.blks 0, CxKn11K5.blks.length, [], []⟩) = true := by kernel_rfl
theorem CxKn11K5_ok {ρ : Env} : CxKn11K5.Ok Tryd.prog ρ := KCall.of_run try_ok lotM_ok (by kernel_rfl) (by kernel_rfl) (by kernel_rfl) CxKn11K5_run

end Go.Proofs.YtbnnackoakhmdaaDoor.Cx

/- Calls that acme/acmelaw11.known makes, each known by a run of its own. Made by tools/cxkcalls.py. -/
namespace Go.Proofs.YtbnnackoakhmdaaDoor.Cx
set_option maxRecDepth 100000
set_option linter.unusedVariables false
open Go Go.Proofs Go.RowKit

def CxKn11K6 : KCall := ⟨15, [.int .i64 (.c 20), .int .i64 (.c 1), .int .i64 (.c 6), .agg [.int .i64 (.c 1), .int .i64 (.c 10)], .agg [.int .i64 (.c 1), .int .i64 (.c 10)]], [], .tup [.agg [.int .i64 (.c 10), .int .i64 (.c 1)], .int .i64 (.c 0)], []⟩
theorem CxKn11K6_run : CxKn11K6.says (eval (ctxOf Tryd.prog lotM) 1000 CxKn11K6.blks.length (.call CxKn11K6.g CxKn11K6.args) ⟨hB CxKn11K6.blks 0, CxKn11K6.blks.length, [], []⟩) = true := by kernel_rfl
theorem CxKn11K6_ok {ρ : Env} : CxKn11K6.Ok Tryd.prog ρ := KCall.of_run try_ok lotM_ok (by kernel_rfl) (by kernel_rfl) (by kernel_rfl) CxKn11K6_run

def CxKn11K7 : KCall := ⟨17, [.int .i64 (.c 20), .agg [.int .i64 (.c 5), .int .i64 (.c 0)], .agg [.int .i64 (.c 1), .int .i64 (.c 10)]], [], .tup [.int .i64 (.c 6), .int .i64 (.c 0)], []⟩
theorem CxKn11K7_run : CxKn11K7.says (eval (ctxOf Tryd.prog lotM) 1000 CxKn11K7.blks.length (.call CxKn11K7.g CxKn11K7.args) ⟨hB CxKn11K7.blks 0, CxKn11K7.blks.length, [], []⟩) = true := by kernel_rfl
theorem CxKn11K7_ok {ρ : Env} : CxKn11K7.Ok Tryd.prog ρ := KCall.of_run try_ok lotM_ok (by kernel_rfl) (by kernel_rfl) (by kernel_rfl) CxKn11K7_run

end Go.Proofs.YtbnnackoakhmdaaDoor.Cx

/- acme/acmelaw11.known returns true, in every world that holds what the listed variables hold: by the evaluator, its heavy calls by runs of their own. Made by tools/cxkcalls.py. -/
namespace Go.Proofs.YtbnnackoakhmdaaDoor.Cx
set_option maxRecDepth 100000
set_option linter.unusedVariables false
open Go Go.Proofs Go.RowKit
noncomputable def CxKn11C : Ctx := ctxOf Tryd.prog (memoK CxKn11K0 (memoK CxKn11K1 (memoK CxKn11K2 (memoK CxKn11K3 (memoK CxKn11K4 (memoK CxKn11K5 (memoK CxKn11K6 (memoK CxKn11K7 lotM))))))))
theorem CxKn11_run : isTrue (eval CxKn11C 1000 0 (.call 4 []) .empty) = true := by kernel_rfl
theorem CxKn11_known : KnownB Tryd.prog 4 := known_of try_ok (memoK_ok CxKn11K0_ok (memoK_ok CxKn11K1_ok (memoK_ok CxKn11K2_ok (memoK_ok CxKn11K3_ok (memoK_ok CxKn11K4_ok (memoK_ok CxKn11K5_ok (memoK_ok CxKn11K6_ok (memoK_ok CxKn11K7_ok lotM_ok)))))))) (by kernel_rfl) CxKn11_run
end Go.Proofs.YtbnnackoakhmdaaDoor.Cx

/- LotWalks: both walks through a right tree meet the same nodes; acmeref11.Walk by recursion. -/
namespace Go.Proofs.YtbnnackoakhmdaaDoor.Cx
set_option linter.unusedVariables false
set_option linter.unusedSimpArgs false
set_option maxRecDepth 100000
set_option maxHeartbeats 4000000
open Go Go.RowKit

/-- The kind of a piece, and how many gauges were tried, from a node on, in at most so many steps. -/
def wkF (g k no ye : Nat → Int) (said : Nat → Bool) : Nat → Int → Int × Int
  | 0, _ => (0, 0)
  | m + 1, x => if g x.toNat = -1 then (k x.toNat, 0) else ((wkF g k no ye said m (bif said (g x.toNat).toNat then ye x.toNat else no x.toNat)).1, (wkF g k no ye said m (bif said (g x.toNat).toNat then ye x.toNat else no x.toNat)).2 + 1)

abbrev AllOk (n s : Int) (g k no ye : Nat → Int) : Prop := ∀ i : Nat, (i : Int) < n → nodeOk n s g k no ye i

section
variable {g k no ye : Nat → Int} {said : Nat → Bool} {n : Nat} {s : Int}

theorem AllOk.next (h : AllOk n s g k no ye) {x : Int} (h0 : 0 ≤ x) (h1 : x < n) (hg : g x.toNat ≠ -1) : k x.toNat = -1 ∧ 0 ≤ g x.toNat ∧ g x.toNat < s ∧ x < (bif said (g x.toNat).toNat then ye x.toNat else no x.toNat) ∧ (bif said (g x.toNat).toNat then ye x.toNat else no x.toNat) < n := by
  have := h x.toNat (by omega)
  unfold nodeOk NOK at this
  cases said (g x.toNat).toNat <;> simp only [cond_true, cond_false] <;> omega

theorem wk_enough (h : AllOk n s g k no ye) : ∀ (m : Nat) (x : Int), 0 ≤ x → x < n → n - x ≤ m → wkF g k no ye said (m + 1) x = wkF g k no ye said m x
  | 0, x, h0, h1, h2 => by omega
  | m + 1, x, h0, h1, h2 => by
    by_cases hg : g x.toNat = -1
    · simp only [wkF, if_pos hg]
    · obtain ⟨_, _, _, q1, q2⟩ := h.next (said := said) h0 h1 hg
      rw [wkF, if_neg hg, wk_enough h m _ (by omega) q2 (by omega)]
      conv => rhs; rw [wkF, if_neg hg]

theorem wk_leaf (hn : 0 < n) {x : Int} (hg : g x.toNat = -1) : wkF g k no ye said n x = (k x.toNat, 0) := by
  obtain ⟨m, rfl⟩ : ∃ m, n = m + 1 := ⟨n - 1, by omega⟩
  rw [wkF, if_pos hg]

theorem wk_step (h : AllOk n s g k no ye) {x : Int} (h0 : 0 ≤ x) (h1 : x < n) (hg : g x.toNat ≠ -1) :
    wkF g k no ye said n x = ((wkF g k no ye said n (bif said (g x.toNat).toNat then ye x.toNat else no x.toNat)).1, (wkF g k no ye said n (bif said (g x.toNat).toNat then ye x.toNat else no x.toNat)).2 + 1) := by
  rw [← wk_enough h n x h0 h1 (by omega), wkF, if_neg hg]

theorem wk_rng (h : AllOk n s g k no ye) : ∀ (m : Nat) (x : Int), 0 ≤ x → x < n → n - x ≤ m → 0 ≤ (wkF g k no ye said n x).2 ∧ (wkF g k no ye said n x).2 + x < n
  | 0, x, h0, h1, h2 => by omega
  | m + 1, x, h0, h1, h2 => by
    by_cases hg : g x.toNat = -1
    · rw [wk_leaf (by omega) hg]; exact ⟨Int.le_refl _, by simpa using h1⟩
    · obtain ⟨_, _, _, q1, q2⟩ := h.next (said := said) h0 h1 hg
      have ih := wk_rng h m _ (by omega) q2 (by omega)
      rw [wk_step h h0 h1 hg]
      simp only
      omega
end

/-! ## The reference's -/

def wkT0 (v : AW) : Tab := v.t.getD 0 .none
def wkT1 (v : AW) : Tab := v.t.getD 1 .none
def wkPre (v : AW) : Prop := (wkT0 v).n ≤ 511 ∧ (wkT1 v).n ≤ 10 ∧ 0 ≤ v.i.getD 0 0 ∧ v.i.getD 0 0 < (wkT0 v).n ∧ AllOk (wkT0 v).n (wkT1 v).n ((wkT0 v).c 0) ((wkT0 v).c 1) ((wkT0 v).c 2) ((wkT0 v).c 3)
def wkMu (v : AW) : Nat := ((wkT0 v).n - v.i.getD 0 0).toNat
def wkFn (v : AW) : Int × Int := wkF ((wkT0 v).c 0) ((wkT0 v).c 1) ((wkT0 v).c 2) ((wkT0 v).c 3) ((wkT1 v).g 0) (wkT0 v).n (v.i.getD 0 0)

def wkV (n : Nat) (c0 c1 c2 c3 : Nat → Int) (q : Nat) (b : Nat → Bool) (x : Int) : AW :=
  ⟨[x], [], [⟨n, fun j => match j with | 0 => c0 | 1 => c1 | 2 => c2 | _ => c3, fun _ _ => false⟩, ⟨q, fun _ _ => 0, fun _ => b⟩]⟩

noncomputable def lwY (m : Nat) : RwxT := fun n c0 c1 c2 c3 q b x => recS' rwxP wkPre wkMu wkFn rwxW m (wkV n c0 c1 c2 c3 q b x)

theorem lwY_eq (m : Nat) : rwxF (lwY m) = recS' rwxP wkPre wkMu wkFn rwxW m := rfl

section
variable {a0 : Nat} {a1 a2 a3 a4 : Nat → Int} {a5 : Nat} {a6 : Nat → Bool} {a7 : Int}

theorem lwY_val {m : Nat} (h0 : a0 ≤ 511) (h1 : a5 ≤ 10) (h2 : 0 ≤ a7) (h3 : a7 < a0) (h4 : AllOk a0 a5 a1 a2 a3 a4) (h5 : a0 - a7 < m) :
    AF.fin (lwY m a0 a1 a2 a3 a4 a5 a6 a7) = true ∧ AF.val (lwY m a0 a1 a2 a3 a4 a5 a6 a7) = wkF a1 a2 a3 a4 a6 a0 a7 :=
  recS_val (v := wkV a0 a1 a2 a3 a4 a5 a6 a7) ⟨⟨h0, h1, h2, h3, h4⟩, by show (a0 - a7).toNat < m; omega⟩

theorem shp4 (n : Nat) (c0 c1 c2 c3 : Nat → Int) : ShapeOk [some .i64, some .i64, some .i64, some .i64] (tabOf n fun i => [CV.int .i64 (.x (c0 i)), CV.int .i64 (.x (c1 i)), CV.int .i64 (.x (c2 i)), CV.int .i64 (.x (c3 i))]) (fun i => [CV.int .i64 (.x (c0 i)), CV.int .i64 (.x (c1 i)), CV.int .i64 (.x (c2 i)), CV.int .i64 (.x (c3 i))]) = true := shape_ok fun i _ => rfl
theorem shpb (n : Nat) (b : Nat → Bool) : ShapeOk [none] (tabOf n fun i => [CV.bool (.x (b i))]) (fun i => [CV.bool (.x (b i))]) = true := shape_ok fun i _ => rfl

theorem lrw_run (h0 : a0 ≤ 511) (h1 : a5 ≤ 10) (h2 : 0 ≤ a7) (h3 : a7 < a0) (h4 : AllOk a0 a5 a1 a2 a3 a4) {m : Nat} (hm : (a0 - a7).toNat = m) :
    ∃ n v, AF.run (lrwA (lwY m) a0 a1 a2 a3 a4 a5 a6 a7) n = some v ∧ v = wkF a1 a2 a3 a4 a6 a0 a7 := by
  refine AF.run_sat (E := fun v => v = wkF a1 a2 a3 a4 a6 a0 a7) (Inv := fun b => False) (fun b => 0) (fun b => b.elim) (fun b => b.elim) ?_
  show DD.sat _ _ (lrwD0 (lwY m) a0 a1 a2 a3 a4 a5 a6 a7)
  unfold lrwD0
  simp only [DD.sat, Nat.zero_add, cmEql, cmEqlF, decide_eq_true_eq]
  refine ⟨h2, h3, by omega, fun hg => (wk_leaf (by omega) hg).symm, fun hg => ?_⟩
  have key := fun b (hb : a6 (a1 a7.toNat).toNat = b) => by
    have := h4.next (said := a6) h2 h3 hg
    rw [hb] at this
    exact this
  have st := wk_step (said := a6) h4 h2 h3 hg
  have go : ∀ x : Int, a7 < x → x < a0 → AF.fin (lwY m a0 a1 a2 a3 a4 a5 a6 x) = true ∧ AF.val (lwY m a0 a1 a2 a3 a4 a5 a6 x) = wkF a1 a2 a3 a4 a6 a0 x := fun x q1 q2 => lwY_val h0 h1 (by omega) q2 h4 (by omega)
  have rg : ∀ x : Int, a7 < x → x < a0 → Ar.run .add .i64 (wkF a1 a2 a3 a4 a6 a0 x).2 1 = (wkF a1 a2 a3 a4 a6 a0 x).2 + 1 := fun x q1 q2 => by
    have := wk_rng (said := a6) h4 a0 x (by omega) q2 (by omega)
    exact arAdd (by omega)
  refine ⟨?_, ?_, ?_, fun hb => ?_, fun hb => ?_⟩
  · exact (h4.next (said := a6) h2 h3 hg).2.1
  · exact (h4.next (said := a6) h2 h3 hg).2.2.1
  · have := (h4.next (said := a6) h2 h3 hg).2.2.1
    have := (h4.next (said := a6) h2 h3 hg).2.1
    omega
  · obtain ⟨_, _, _, q1, q2⟩ := key true hb
    simp only [cond_true] at q1 q2
    refine ⟨Nat.le_refl _, shp4 _ _ _ _ _, Nat.le_refl _, shpb _ _, (go _ q1 q2).1, ?_⟩
    rw [st, hb, (go _ q1 q2).2, cond_true, rg _ q1 q2]
  · obtain ⟨_, _, _, q1, q2⟩ := key false hb
    simp only [cond_false] at q1 q2
    refine ⟨Nat.le_refl _, shp4 _ _ _ _ _, Nat.le_refl _, shpb _ _, (go _ q1 q2).1, ?_⟩
    rw [st, hb, (go _ q1 q2).2, cond_false, rg _ q1 q2]

theorem lwY_known {ρ : Env} (m : Nat) : KnownS Tryd.prog ρ 7 rwxP (rwxF (lwY m)) rwxW rwxH 2 := by
  rw [lwY_eq]
  refine recS_known ⟨Tryd.f7, Tryd.func7, rfl⟩ (Nat.le_of_ble_eq_true rfl) (fun r => rfl) (fun r => rfl) (fun r => fa_nil) (fun m hK v hp hm => ?_) m
  have hY : KnownS Tryd.prog ρ 7 rwxP (rwxF (lwY m)) rwxW rwxH 2 := by rw [lwY_eq]; exact hK
  obtain ⟨p1, p2, p3, p4, p5⟩ := hp
  obtain ⟨n, r, hr, he⟩ := lrw_run (a6 := (wkT1 v).g 0) p1 p2 p3 p4 p5 hm
  have := (lrwknown (lwY m) (memoS_ok hY memo0_ok)).ctr v n r hr
  rw [he] at this
  exact this

/-! ## The program's -/

theorem lwk_val (hn : a0 ≤ 10000) (hs : a5 ≤ 10000) : AF.fin (lwkA a0 a1 a2 a3 a4 a5 a6) = true ∧ ((a0 > 511 ∨ a5 > 10) ∧ AF.val (lwkA a0 a1 a2 a3 a4 a5 a6) = (0, 0, 5) ∨ a0 ≤ 511 ∧ a5 ≤ 10 ∧ (a0 = 0 ∧ AF.val (lwkA a0 a1 a2 a3 a4 a5 a6) = (0, 0, 2) ∨
    0 < a0 ∧ (AllOk a0 a5 a1 a2 a3 a4 ∧ AF.val (lwkA a0 a1 a2 a3 a4 a5 a6) = ((wkF a1 a2 a3 a4 a6 a0 0).1, (wkF a1 a2 a3 a4 a6 a0 0).2, 0) ∨ ¬ AllOk a0 a5 a1 a2 a3 a4 ∧ AF.val (lwkA a0 a1 a2 a3 a4 a5 a6) = (0, 0, 4)))) := by
  refine AF.val_sat (E := fun v => (a0 > 511 ∨ a5 > 10) ∧ v = (0, 0, 5) ∨ a0 ≤ 511 ∧ a5 ≤ 10 ∧ (a0 = 0 ∧ v = (0, 0, 2) ∨ 0 < a0 ∧ (AllOk a0 a5 a1 a2 a3 a4 ∧ v = ((wkF a1 a2 a3 a4 a6 a0 0).1, (wkF a1 a2 a3 a4 a6 a0 0).2, 0) ∨ ¬ AllOk a0 a5 a1 a2 a3 a4 ∧ v = (0, 0, 4))))
    (Inv := fun b => match b with | .n0 p0 p1 p2 p3 p4 => 0 < a0 ∧ a0 ≤ 511 ∧ a5 ≤ 10 ∧ AllOk a0 a5 a1 a2 a3 a4 ∧ 0 ≤ p0 ∧ ∃ x : Int, p0 ≤ x ∧ x < a0 ∧ p1 = a1 x.toNat ∧ p2 = a2 x.toNat ∧ p3 = a3 x.toNat ∧ p4 = a4 x.toNat ∧ (wkF a1 a2 a3 a4 a6 a0 0).1 = (wkF a1 a2 a3 a4 a6 a0 x).1 ∧ (wkF a1 a2 a3 a4 a6 a0 0).2 = (wkF a1 a2 a3 a4 a6 a0 x).2 + p0)
    (fun b => match b with | .n0 p0 _ _ _ _ => (a0 - p0).toNat) (fun _ => rfl) (fun a hI => ?_) ?_
  · cases a with
    | n0 p0 p1 p2 p3 p4 =>
      obtain ⟨h0, h1, h2, h3, h4, x, h5, h6, rfl, rfl, rfl, rfl, h7, h8⟩ := hI
      show DD.sat _ _ (lwkD a0 a1 a2 a3 a4 a5 a6 (.n0 p0 (a1 x.toNat) (a2 x.toNat) (a3 x.toNat) (a4 x.toNat)))
      unfold lwkD
      have e1 : Ar.run .add .i64 p0 1 = p0 + 1 := arAdd (by omega)
      simp only [DD.sat, Nat.zero_add, cmEql, cmEqlF, decide_eq_true_eq, e1]
      refine ⟨fun hk => ?_, fun hk => ?_⟩
      · have hg : a1 x.toNat ≠ -1 := by
          have := h3 x.toNat (by omega)
          unfold nodeOk NOK at this
          omega
        have st := wk_step (said := a6) h3 (by omega) h6 hg
        obtain ⟨_, q0, q1, q2, q3⟩ := h3.next (said := a6) (by omega) h6 hg
        have more : ∀ y : Int, x < y → y < a0 → wkF a1 a2 a3 a4 a6 a0 x = ((wkF a1 a2 a3 a4 a6 a0 y).1, (wkF a1 a2 a3 a4 a6 a0 y).2 + 1) → (0 < a0 ∧ a0 ≤ 511 ∧ a5 ≤ 10 ∧ AllOk a0 a5 a1 a2 a3 a4 ∧ 0 ≤ p0 + 1 ∧ ∃ z : Int, p0 + 1 ≤ z ∧ z < a0 ∧ a1 y.toNat = a1 z.toNat ∧ a2 y.toNat = a2 z.toNat ∧ a3 y.toNat = a3 z.toNat ∧ a4 y.toNat = a4 z.toNat ∧ (wkF a1 a2 a3 a4 a6 a0 0).1 = (wkF a1 a2 a3 a4 a6 a0 z).1 ∧ (wkF a1 a2 a3 a4 a6 a0 0).2 = (wkF a1 a2 a3 a4 a6 a0 z).2 + (p0 + 1)) ∧ (a0 - (p0 + 1)).toNat < (a0 - p0).toNat := by
          intro y g1 g2 g3
          rw [g3] at h7 h8
          simp only at h7 h8
          exact ⟨⟨h0, h1, h2, h3, by omega, y, by omega, g2, rfl, rfl, rfl, rfl, h7, by omega⟩, by omega⟩
        refine ⟨q0, q1, by omega, fun hb => ?_, fun hb => ?_⟩
        · rw [hb, cond_true] at st q2 q3
          exact ⟨by omega, q3, by omega, more _ q2 q3 st⟩
        · rw [hb, cond_false] at st q2 q3
          exact ⟨by omega, q3, by omega, more _ q2 q3 st⟩
      · have hg : a1 x.toNat = -1 := by
          have := h3 x.toNat (by omega)
          unfold nodeOk NOK at this
          omega
        rw [wk_leaf h0 hg] at h7 h8
        simp only at h7 h8
        refine .inr ⟨h1, h2, .inr ⟨h0, .inl ⟨h3, ?_⟩⟩⟩
        rw [h7, h8, Int.zero_add]
  · show DD.sat _ _ (lwkD0 a0 a1 a2 a3 a4 a5 a6)
    unfold lwkD0
    have hT := lis_val (a0 := a0) (a1 := a1) (a2 := a2) (a3 := a3) (a4 := a4) (a5 := (a5 : Int)) hn (by omega)
    simp only [DD.sat, Nat.zero_add, cmEql, cmEqlF, cmGtr, cmGtrF, decide_eq_true_eq, Bool.not_eq_true', Bool.not_eq_false']
    refine ⟨fun h => .inl ⟨by omega, trivial⟩, fun h => ⟨fun h' => .inl ⟨by omega, trivial⟩, fun h' => ⟨fun h2 => .inr ⟨by omega, by omega, .inl ⟨by omega, trivial⟩⟩, fun h2 => ⟨Nat.le_refl _, shp4 _ _ _ _ _, hT.1, fun hv => ?_, fun hv => ?_⟩⟩⟩⟩
    · have hv : AF.val (lisA a0 a1 a2 a3 a4 a5) = false := hv
      exact .inr ⟨by omega, by omega, .inr ⟨by omega, .inr ⟨fun ho => (by rw [hT.2.2 ho] at hv; cases hv), trivial⟩⟩⟩
    · exact ⟨trivial, by omega, by omega, by omega, by omega, by omega, hT.2.1 hv, Int.le_refl _, 0, Int.le_refl _, by omega, rfl, rfl, rfl, rfl, rfl, by omega⟩

/-! ## The law -/

theorem lw_mem {ρ : Env} : MemoOk Tryd.prog (ctxOf Tryd.prog (memoS 5 lwkP lwkF lwkW lwkH 2 (memoS 6 lnoP lnoF lnoW lnoH 1 (memoS 7 rwxP (rwxF (lwY 600)) rwxW rwxH 2 (memoB [4]))))) ρ :=
  memoS_ok (lwkknown lwkmem) (memoS_ok (lnoknown lnomem) (memoS_ok (lwY_known 600) (memoB_ok (fun f hf => by
    simp only [List.mem_cons, List.not_mem_nil, or_false] at hf
    subst hf
    exact CxKn11_known))))

theorem llw_run (a0 : Nat) (a1 a2 a3 a4 : Nat → Int) (a5 : Nat) (a6 : Nat → Bool) (h0 : a0 ≤ 9223372036854775807) (_ : ∀ i, -9223372036854775808 ≤ a1 i ∧ a1 i ≤ 9223372036854775807) (_ : ∀ i, -9223372036854775808 ≤ a2 i ∧ a2 i ≤ 9223372036854775807) (_ : ∀ i, -9223372036854775808 ≤ a3 i ∧ a3 i ≤ 9223372036854775807) (_ : ∀ i, -9223372036854775808 ≤ a4 i ∧ a4 i ≤ 9223372036854775807) (h5 : a5 ≤ 9223372036854775807) :
    ∃ n v, AF.run (llwA (lwY 600) a0 a1 a2 a3 a4 a5 a6) n = some v ∧ v = true := by
  by_cases hbig : (a0 > 60 ∧ a0 ≤ 511) ∨ a0 > 520 ∨ a5 > 15
  · refine AF.run_sat (E := fun v => v = true) (Inv := fun b => False) (fun b => 0) (fun b => rfl) (fun b h => h.elim) ?_
    show DD.sat _ _ (llwD0 (lwY 600) a0 a1 a2 a3 a4 a5 a6)
    unfold llwD0
    simp only [DD.sat, cmGtr, cmGtrF, cmLeq, cmLeqF]
    refine ⟨fun h => ⟨fun h' => trivial, fun h' => ⟨fun h2 => trivial, fun h2 => ⟨fun h3 => trivial, fun h3 => by omega⟩⟩⟩, fun h => ⟨fun h2 => trivial, fun h2 => ⟨fun h3 => trivial, fun h3 => by omega⟩⟩⟩
  · have hW := lwk_val (a0 := a0) (a1 := a1) (a2 := a2) (a3 := a3) (a4 := a4) (a5 := a5) (a6 := a6) (by omega) (by omega)
    have hN := lno_val (a0 := a0) (a1 := a1) (a2 := a2) (a3 := a3) (a4 := a4) (a5 := (a5 : Int)) (by omega) (by omega)
    refine AF.run_sat (E := fun v => v = true) (Inv := fun b => match b with | .n0 p0 p1 p2 p3 => 0 ≤ p3 ∧ p3 ≤ a0 ∧ (p0, p1, p2) = AF.val (lwkA a0 a1 a2 a3 a4 a5 a6)) (fun b => match b with | .n0 p0 p1 p2 p3 => (a0 - p3).toNat) (fun b => rfl) (fun a hI => ?_) ?_
    · cases a with
      | n0 p0 p1 p2 p3 =>
        obtain ⟨g0, g1, g2⟩ := hI
        show DD.sat _ _ (llwD (lwY 600) a0 a1 a2 a3 a4 a5 a6 (.n0 p0 p1 p2 p3))
        unfold llwD
        have e1 : p3 < a0 → Ar.run .add .i64 p3 1 = p3 + 1 := fun h => arAdd (by omega)
        simp only [DD.sat, Nat.zero_add, cmEql, cmEqlF, cmNeq, cmNeqF, cmGtr, cmGtrF, cmLss, cmLssF, decide_eq_true_eq]
        refine ⟨fun h => ?_, fun h => ⟨Nat.le_refl _, shp4 _ _ _ _ _, hN.1, ?_⟩⟩
        · rw [e1 h]
          refine ⟨g0, h, by omega, g0, h, by omega, fun _ => ⟨fun _ => ⟨fun _ => ⟨fun _ => ⟨⟨by omega, by omega, g2⟩, by omega⟩, fun hx => (hx rfl).elim⟩, fun hx => (hx rfl).elim⟩, fun hx => (hx rfl).elim⟩, fun hx => (hx rfl).elim⟩
        · rcases hW.2 with ⟨hw1, hw2⟩ | ⟨hw1, hw2, ⟨hw3, hw4⟩ | ⟨hw3, ⟨hw4, hw5⟩ | ⟨hw4, hw5⟩⟩⟩
          · have hv : AF.val (lnoA a0 a1 a2 a3 a4 (a5 : Int)) = 5 := by
              rcases hN.2 with h | ⟨h1, h2, _⟩
              · exact h.2
              · omega
            rw [hw2] at g2
            simp only [Prod.mk.injEq] at g2
            obtain ⟨rfl, rfl, rfl⟩ := g2
            have hv : AF.val (lnoA a0 (fun i => a1 i) (fun i => a2 i) (fun i => a3 i) (fun i => a4 i) (a5 : Int)) = _ := hv
            rw [hv]
            simp
          · have hv : AF.val (lnoA a0 a1 a2 a3 a4 (a5 : Int)) = 2 := by
              rcases hN.2 with h | ⟨_, _, ⟨_, h⟩ | ⟨h, _⟩⟩
              · omega
              · exact h
              · omega
            rw [hw4] at g2
            simp only [Prod.mk.injEq] at g2
            obtain ⟨rfl, rfl, rfl⟩ := g2
            have hv : AF.val (lnoA a0 (fun i => a1 i) (fun i => a2 i) (fun i => a3 i) (fun i => a4 i) (a5 : Int)) = _ := hv
            rw [hv]
            simp
          · have hv : AF.val (lnoA a0 a1 a2 a3 a4 (a5 : Int)) = 0 := by
              rcases hN.2 with h | ⟨_, _, ⟨h, _⟩ | ⟨_, ⟨_, h⟩ | ⟨h, _⟩⟩⟩
              · omega
              · omega
              · exact h
              · exact absurd hw4 h
            have hY := lwY_val (a6 := a6) (m := 600) hw1 hw2 (Int.le_refl 0) (by omega) hw4 (by omega)
            rw [hw5] at g2
            simp only [Prod.mk.injEq] at g2
            obtain ⟨rfl, rfl, rfl⟩ := g2
            have hv : AF.val (lnoA a0 (fun i => a1 i) (fun i => a2 i) (fun i => a3 i) (fun i => a4 i) (a5 : Int)) = _ := hv
            rw [hv]
            refine ⟨fun h => (h rfl).elim, fun _ => ⟨Nat.le_refl _, shp4 _ _ _ _ _, Nat.le_refl _, shpb _ _, hY.1, ?_⟩⟩
            have hY2 : AF.val (lwY 600 a0 (fun i => a1 i) (fun i => a2 i) (fun i => a3 i) (fun i => a4 i) a5 (fun i => a6 i) 0) = _ := hY.2
            rw [hY2]
            simp
          · have hv : AF.val (lnoA a0 a1 a2 a3 a4 (a5 : Int)) = 4 := by
              rcases hN.2 with h | ⟨_, _, ⟨h, _⟩ | ⟨_, ⟨h, _⟩ | ⟨_, h⟩⟩⟩
              · omega
              · omega
              · exact absurd h hw4
              · exact h
            rw [hw5] at g2
            simp only [Prod.mk.injEq] at g2
            obtain ⟨rfl, rfl, rfl⟩ := g2
            have hv : AF.val (lnoA a0 (fun i => a1 i) (fun i => a2 i) (fun i => a3 i) (fun i => a4 i) (a5 : Int)) = _ := hv
            rw [hv]
            simp
    · show DD.sat _ _ (llwD0 (lwY 600) a0 a1 a2 a3 a4 a5 a6)
      unfold llwD0
      simp only [DD.sat, Nat.zero_add, cmGtr, cmGtrF, cmLeq, cmLeqF, decide_eq_true_eq]
      have fin : (a0 ≤ a0 ∧ a0 ≤ 10000 ∧ a5 ≤ a5 ∧ a5 ≤ 10000 ∧ True) := ⟨Nat.le_refl _, by omega, Nat.le_refl _, by omega, trivial⟩
      refine ⟨fun h => ⟨fun h' => trivial, fun h' => ⟨fun h2 => trivial, fun h2 => ⟨fun h3 => trivial, fun h3 => ?_⟩⟩⟩, fun h => ⟨fun h2 => trivial, fun h2 => ⟨fun h3 => trivial, fun h3 => ?_⟩⟩⟩
      · exact ⟨Nat.le_refl _, by omega, Nat.le_refl _, by omega, Nat.le_refl _, shp4 _ _ _ _ _, Nat.le_refl _, Nat.le_refl _, shpb _ _, Nat.le_refl _, hW.1, Int.le_refl _, by omega, trivial⟩
      · exact ⟨Nat.le_refl _, by omega, Nat.le_refl _, by omega, Nat.le_refl _, shp4 _ _ _ _ _, Nat.le_refl _, Nat.le_refl _, shpb _ _, Nat.le_refl _, hW.1, Int.le_refl _, by omega, trivial⟩
end
end Go.Proofs.YtbnnackoakhmdaaDoor.Cx

/- ARGUMENTS THAT ARE SLICES: opened as lists; the memory in which they lie as blocks that are read alone; a law's contract as its statement's walk. -/
namespace Go.Proofs.YtbnnackoakhmdaaDoor.Cx
set_option linter.unusedSimpArgs false
set_option linter.unusedVariables false
open Go Go.RowKit Go.ChangeShapes Go.WideShapes Go.Deep Go.Proofs.YtbnnackoakhmdaaDoor

/-! ## Such slices as blocks -/

section
variable {P : Program} {ρ : Env}

/-- Where a slice's rows lie. -/
noncomputable def locOf (w : World) (v : Value) (z : Nat) : Option Loc :=
  match v with
  | .slice (some a) (_ + 1) _ => match w.heap[a.block]? with
    | some (.cells c _ _) => some ⟨a.block, a.off, c.size, z⟩
    | _ => none
  | _ => none

theorem rows_rel {α : Type} {en : α → List Value} {ec : α → List CV} {d : α} (he : ∀ σ x, VRl ρ σ (ec x) (en x)) (σ : Mp) : ∀ (xs : List α) (n : Nat), n ≤ xs.length → VRl ρ σ (flatR (fun j => ec (xs.getD j d)) n) ((xs.take n).flatMap en)
  | xs, 0, _ => by simpa [flatR] using VRl.nil
  | xs, n + 1, h => by
    have ih := rows_rel (d := d) he σ xs n (by omega)
    rw [flatR, List.take_add_one, List.flatMap_append]
    refine ih.append ?_
    have hn : n < xs.length := by omega
    rw [List.getElem?_eq_getElem hn, List.getD_eq_getElem?_getD, List.getElem?_eq_getElem hn]
    simpa using he σ xs[n]

theorem SlR.rel {α : Type} {en : α → List Value} {ec : α → List CV} {d : α} {z : Nat} {w : World} {v : Value} {xs : List α} {σ : Mp} {b : Nat} (h : SlR en z w v xs) (hz : ∀ x, (en x).length = z) (he : ∀ σ x, VRl ρ σ (ec x) (en x))
    (hk : ∀ j, (ec (xs.getD j d)).length = z ∧ (ec (xs.getD j d)).all CV.flat = true) (hσ : σ b = locOf w v z) :
    VR ρ σ (.sla b z 0 xs.length) v ∧ ArgAt ρ w ⟨.arg xs.length z (fun j => ec (xs.getD j d)) hk, z, true, none⟩ (σ b) := by
  obtain ⟨a, cap, rfl, hcap, _, hx⟩ := h
  have hcl : Blk.cells ⟨.arg xs.length z (fun j => ec (xs.getD j d)) hk, z, true, none⟩ = flatR (fun j => ec (xs.getD j d)) xs.length := rfl
  have hlen := flatR_length (fun j => (hk j).1) xs.length
  rcases hx with rfl | ⟨bl, off, c, t, p, rfl, hh, hsz, hrow⟩
  · refine ⟨.sla0 _ _, rfl, rfl, rfl, fun l hl => ?_⟩
    rw [hσ] at hl
    simp [locOf] at hl
  · cases xs with
    | nil =>
      refine ⟨.sla0 _ _, rfl, rfl, rfl, fun l hl => ?_⟩
      rw [hσ] at hl
      simp [locOf] at hl
    | cons x xs =>
      have hlo : locOf w (.slice (some ⟨bl, off, none⟩) (x :: xs).length cap) z = some ⟨bl, off, c.size, z⟩ := by
        simp [locOf, hh]
      rw [hlo] at hσ
      refine ⟨?_, rfl, rfl, rfl, fun l hl => ?_⟩
      · have := VR.sla (ρ := ρ) (σ := σ) (b := b) (z := z) (o := 0) (n := (x :: xs).length) (c' := cap) hσ hcap
        simpa using this
      · rw [hσ] at hl
        obtain rfl := Option.some.inj hl
        refine ⟨c, t, p, hh, rfl, rfl, by rw [hcl, hlen]; exact hsz, fun τ => ?_⟩
        rw [hcl, hlen, hrow]
        have := rows_rel (ρ := ρ) (d := d) he τ (x :: xs) (x :: xs).length (Nat.le_refl _)
        rwa [List.take_of_length_le (Nat.le_refl _)] at this

/-- A law's contract, as its statement's walk. -/
theorem Ctr.law {f : Nat} {args : List CV} {h0 h1 : Tr Blk} {base n1 : Nat} {e : BE} {w : World} {σ : Mp} {args' : Array Value} (K : Ctr P ρ f args h0 base [] (.bool e) h1 n1) (he : e.den ρ = true) (ha : VRl ρ σ args args'.toList) (hH : HR ρ σ (curOf h0 base) w) (hN : ∀ b, base ≤ b → σ b = none) :
    Calls P f args' w fun e w' => e = .returned (.bool true) ∧ Below w.heap.size w w' := by
  refine ((K.run 0 σ w args' ha hH hN).calls (fun k d h => by cases h)).mono ?_
  rintro e' w' ⟨v, rfl, σ', h1, h2, h3, h4, h5⟩
  cases h2
  refine ⟨by rw [he], h4.os, h4.tape, h4.output, h4.size, fun k hk => h4.block k hk (fun b hb l hl => ?_)⟩
  rcases hb with hb | hb
  · cases hb
  · rw [hN b hb] at hl; cases hl

end
end Go.Proofs.YtbnnackoakhmdaaDoor.Cx

/- ARGUMENTS OF LAWS, OPENED BY THEIR TYPES: integers, bools, structs, arrays, and slices of rows of integers and bools (a table each); the memory in which these lie. -/
namespace Go.Proofs.YtbnnackoakhmdaaDoor.Cx
set_option linter.unusedSimpArgs false
set_option linter.unusedVariables false
open Go Go.RowKit Go.ChangeShapes Go.WideShapes Go.Deep Go.Proofs.YtbnnackoakhmdaaDoor

/-! ## What the cells of a type are -/

inductive CK where
  | int (k : IntKind)
  | bool
  | tab (ks : List (Option IntKind))

def flatCK : List CK → Option (List (Option IntKind))
  | [] => some []
  | .int k :: l => match flatCK l with | some m => some (some k :: m) | none => none
  | .bool :: l => match flatCK l with | some m => some (none :: m) | none => none
  | .tab _ :: _ => none

def ckFs (P : Program) (f : TypeId → Option (List CK)) : Nat → List Field → Option (List CK)
  | _, [] => some []
  | off, fd :: l => match f fd.type with
    | some ks => bif Nat.beq fd.offset off && Nat.beq (P.cellsOf fd.type) ks.length then (match ckFs P f (off + ks.length) l with | some m => some (ks ++ m) | none => none) else none
    | none => none

def repL {α : Type} : Nat → List α → List α
  | 0, _ => []
  | n + 1, l => repL n l ++ l

def ckOf (P : Program) : Nat → TypeId → Option (List CK)
  | 0, _ => none
  | d + 1, t => match P.underlying t with
    | some (.int k) => some [.int k]
    | some .bool => some [.bool]
    | some (.struct fs) => match ckFs P (ckOf P d) 0 fs.toList with
      | some ks => bif Nat.beq (P.cellsOf t) ks.length then some ks else none
      | none => none
    | some (.array n e) => match ckOf P d e with
      | some ks => bif Nat.beq (P.cellsOf e) ks.length && Nat.beq (P.cellsOf t) (n * ks.length) then some (repL n ks) else none
      | none => none
    | some (.slice e) => match ckOf P d e with
      | some ks => match flatCK ks with
        | some l => bif Nat.beq (P.cellsOf e) l.length && Nat.blt 0 l.length then some [.tab l] else none
        | none => none
      | none => none
    | _ => none

/-! ## Rows -/

/-- The cells of a row: integers and bools, by their places. -/
structure RowV where
  c : Nat → Int
  g : Nat → Bool

def RowV.zero : RowV := ⟨fun _ => 0, fun _ => false⟩

def enV (r : RowV) : List (Option IntKind) → Nat → List Value
  | [], _ => []
  | some k :: ks, j => .int k (r.c j) :: enV r ks (j + 1)
  | none :: ks, j => .bool (r.g j) :: enV r ks (j + 1)

def okV (ks : List (Option IntKind)) (r : RowV) : Prop := ∀ j k, ks[j]? = some (some k) → (Lit.int k (r.c j)).wf = true

theorem enV_length (r : RowV) : ∀ (ks : List (Option IntKind)) (j : Nat), (enV r ks j).length = ks.length
  | [], _ => rfl
  | some k :: ks, j => congrArg Nat.succ (enV_length r ks (j + 1))
  | none :: ks, j => congrArg Nat.succ (enV_length r ks (j + 1))

/-- The cells of an argument: such, and slices of rows. -/
structure RowW where
  c : Nat → Int
  g : Nat → Bool
  s : Nat → Value
  t : Nat → List RowV

def enW (r : RowW) : List CK → Nat → List Value
  | [], _ => []
  | .int k :: ks, j => .int k (r.c j) :: enW r ks (j + 1)
  | .bool :: ks, j => .bool (r.g j) :: enW r ks (j + 1)
  | .tab _ :: ks, j => r.s j :: enW r ks (j + 1)

/-- A slice of such rows. -/
def SlT (ks : List (Option IntKind)) (w : World) (v : Value) (xs : List RowV) : Prop := SlR (fun r => enV r ks 0) ks.length w v xs ∧ ∀ x ∈ xs, okV ks x

def cellW (w : World) : CK → Value → Prop
  | .int k, v => ∃ z, v = .int k z ∧ (Lit.int k z).wf = true
  | .bool, v => ∃ b, v = .bool b
  | .tab ks, v => ∃ xs, SlT ks w v xs

inductive Mt (w : World) : List CK → List Value → Prop
  | nil : Mt w [] []
  | cons {k : CK} {v : Value} {ks : List CK} {vs : List Value} (h : cellW w k v) (t : Mt w ks vs) : Mt w (k :: ks) (v :: vs)

theorem Mt.append {w : World} {a b : List CK} {x y : List Value} (h : Mt w a x) (h' : Mt w b y) : Mt w (a ++ b) (x ++ y) := by
  induction h with
  | nil => exact h'
  | cons h _ ih => exact .cons h ih
theorem Mt.length {w : World} {a : List CK} {x : List Value} (h : Mt w a x) : x.length = a.length := by
  induction h with
  | nil => rfl
  | cons h _ ih => simp [ih]

/-- What the cells' places hold. -/
noncomputable def rowW (w : World) (ks : List CK) (vs : List Value) : RowW :=
  ⟨fun j => match vs[j]? with | some (.int _ z) => z | _ => 0, fun j => match vs[j]? with | some (.bool b) => b | _ => false, fun j => vs.getD j (.bool false),
   fun j => match ks[j]? with | some (.tab l) => @dite _ (∃ xs, SlT l w (vs.getD j (.bool false)) xs) (Classical.propDecidable _) (fun h => Classical.choose h) (fun _ => []) | _ => []⟩

def okW (w : World) (ks : List CK) (r : RowW) : Prop := (∀ j k, ks[j]? = some (.int k) → (Lit.int k (r.c j)).wf = true) ∧ ∀ j l, ks[j]? = some (.tab l) → SlT l w (r.s j) (r.t j)

theorem Mt.get {w : World} {ks : List CK} {vs : List Value} (h : Mt w ks vs) : ∀ {j : Nat} {k : CK}, ks[j]? = some k → ∃ v, vs[j]? = some v ∧ cellW w k v := by
  induction h with
  | nil => intro j k h; simp at h
  | cons h _ ih =>
    intro j k hj
    cases j with
    | zero => simp at hj; subst hj; exact ⟨_, rfl, h⟩
    | succ j => simpa using ih (by simpa using hj)

theorem Mt.row {w : World} {ks : List CK} {vs : List Value} (h : Mt w ks vs) : vs = enW (rowW w ks vs) ks 0 ∧ okW w ks (rowW w ks vs) := by
  have key : ∀ (n : Nat) (pre post : List CK) (a b : List Value), ks = pre ++ post → vs = a ++ b → a.length = pre.length → b.length = post.length → post.length = n → b = enW (rowW w ks vs) post pre.length := by
    intro n
    induction n with
    | zero =>
      intro pre post a b h1 h2 h3 h4 h5
      cases post with
      | nil => cases b with
        | nil => rfl
        | cons x b => simp at h4
      | cons x l => simp at h5
    | succ n ih =>
      intro pre post a b h1 h2 h3 h4 h5
      cases post with
      | nil => simp at h5
      | cons k post =>
        cases b with
        | nil => simp at h4
        | cons v b =>
          have hk : ks[pre.length]? = some k := by rw [h1]; simp
          have hv : vs[pre.length]? = some v := by rw [h2, ← h3]; simp
          obtain ⟨v', hv', hc⟩ := h.get hk
          rw [hv] at hv'
          obtain rfl := Option.some.inj hv'
          have ih' := ih (pre ++ [k]) post (a ++ [v]) b (by simp [h1]) (by simp [h2]) (by simp [h3]) (by simpa using h4) (by simpa using h5)
          rw [List.length_append, List.length_singleton] at ih'
          have hd : vs.getD pre.length (.bool false) = v := by rw [List.getD_eq_getElem?_getD, hv]; rfl
          cases k with
          | int k =>
            obtain ⟨z, rfl, _⟩ := hc
            rw [enW, ← ih']
            congr 1
            simp [rowW, hv]
          | bool =>
            obtain ⟨z, rfl⟩ := hc
            rw [enW, ← ih']
            congr 1
            simp [rowW, hv]
          | tab l =>
            rw [enW, ← ih']
            congr 1
            exact hd.symm
  refine ⟨key ks.length [] ks [] vs rfl rfl rfl h.length rfl, fun j k hk => ?_, fun j l hl => ?_⟩
  · obtain ⟨v, hv, z, rfl, hz⟩ := h.get hk
    simpa [rowW, hv] using hz
  · obtain ⟨v, hv, xs, hx⟩ := h.get hl
    have hd : vs.getD j (.bool false) = v := by rw [List.getD_eq_getElem?_getD, hv]; rfl
    have hex : ∃ xs, SlT l w (vs.getD j (.bool false)) xs := ⟨xs, by rw [hd]; exact hx⟩
    have e : (rowW w ks vs).t j = Classical.choose hex := by
      simp only [rowW, hl]
      rw [dif_pos hex]
    rw [e]
    exact Classical.choose_spec hex

/-- Cells of a row, as a row. -/
theorem Mt.flat {w : World} {cks : List CK} {vs : List Value} (h : Mt w cks vs) : ∀ {ks : List (Option IntKind)}, flatCK cks = some ks → ∃ r : RowV, vs = enV r ks 0 ∧ okV ks r := by
  have key : ∀ {cks : List CK} {vs : List Value}, Mt w cks vs → ∀ {ks : List (Option IntKind)}, flatCK cks = some ks → ∀ (r : RowV) (j : Nat), ∃ r' : RowV, vs = enV r' ks j ∧ (∀ i k, ks[i]? = some (some k) → (Lit.int k (r'.c (j + i))).wf = true) ∧ ∀ i, i < j → r'.c i = r.c i ∧ r'.g i = r.g i := by
    intro cks vs h
    induction h with
    | nil =>
      intro ks hk r j
      simp only [flatCK] at hk
      cases hk
      exact ⟨r, rfl, fun i k h => by simp at h, fun i _ => ⟨rfl, rfl⟩⟩
    | @cons k v cks vs hc _ ih =>
      intro ks hk r j
      cases k with
      | int k =>
        simp only [flatCK] at hk
        split at hk
        · rename_i m hm
          cases hk
          obtain ⟨z, rfl, hz⟩ := hc
          obtain ⟨r', h1, h2, h3⟩ := ih hm ⟨fun i => if i = j then z else r.c i, r.g⟩ (j + 1)
          have hj := h3 j (by omega)
          simp only [if_true] at hj
          refine ⟨r', by rw [enV, hj.1, ← h1], fun i k' hk' => ?_, fun i hi => ?_⟩
          · cases i with
            | zero => simp at hk'; subst hk'; rw [Nat.add_zero, hj.1]; exact hz
            | succ i => have := h2 i k' (by simpa using hk'); rwa [show j + 1 + i = j + (i + 1) by omega] at this
          · have := h3 i (by omega)
            simp only [if_neg (show i ≠ j by omega)] at this
            exact this
        · cases hk
      | bool =>
        simp only [flatCK] at hk
        split at hk
        · rename_i m hm
          cases hk
          obtain ⟨z, rfl⟩ := hc
          obtain ⟨r', h1, h2, h3⟩ := ih hm ⟨r.c, fun i => if i = j then z else r.g i⟩ (j + 1)
          have hj := h3 j (by omega)
          simp only [if_true] at hj
          refine ⟨r', by rw [enV, hj.2, ← h1], fun i k' hk' => ?_, fun i hi => ?_⟩
          · cases i with
            | zero => simp at hk'
            | succ i => have := h2 i k' (by simpa using hk'); rwa [show j + 1 + i = j + (i + 1) by omega] at this
          · have := h3 i (by omega)
            simp only [if_neg (show i ≠ j by omega)] at this
            exact this
        · cases hk
      | tab l => simp [flatCK] at hk
  intro ks hk
  obtain ⟨r', h1, h2, _⟩ := key h hk RowV.zero 0
  exact ⟨r', h1, fun j k hj => by have := h2 j k hj; rwa [Nat.zero_add] at this⟩

section
variable {H : Type} {enc : TypeId × Value → H} {P : Program} {w : World} {base : Nat} {spare : Nat → Bool} {held : Bool}

theorem seg_add {α : Type} (cs : List α) (o a b : Nat) : (cs.drop o).take (a + b) = (cs.drop o).take a ++ (cs.drop (o + a)).take b := by
  rw [List.take_add, List.drop_drop]

theorem ckFs_ok {f : TypeId → Option (List CK)} {cs : List Value} (hf : ∀ t ks, f t = some ks → ∀ n vs y, DataW.trod enc P w base spare held n t vs = some y → Mt w ks vs) :
    ∀ (l : List Field) (off : Nat) (ks : List CK), ckFs P f off l = some ks → (∀ (i : Nat) (fd : Field), l[i]? = some fd → ∃ n y, DataW.trod enc P w base spare held n fd.type ((cs.drop fd.offset).take (P.cellsOf fd.type)) = some y) → Mt w ks ((cs.drop off).take ks.length)
  | [], off, ks, h, _ => by
    simp only [ckFs] at h
    cases h
    simpa using Mt.nil
  | fd :: l, off, ks, h, ht => by
    simp only [ckFs] at h
    split at h
    · rename_i k1 hk1
      cases hc : (Nat.beq fd.offset off && Nat.beq (P.cellsOf fd.type) k1.length) with
      | false => rw [hc, cond_false] at h; cases h
      | true =>
        rw [hc, cond_true] at h
        simp only [Bool.and_eq_true] at hc
        have e1 := Nat.eq_of_beq_eq_true hc.1
        have e2 := Nat.eq_of_beq_eq_true hc.2
        split at h
        · rename_i m hm
          cases h
          obtain ⟨n, y, hy⟩ := ht 0 fd rfl
          rw [e1, e2] at hy
          have h1 := hf _ _ hk1 _ _ _ hy
          have h2 := ckFs_ok hf l (off + k1.length) m hm fun i fd' hi => ht (i + 1) fd' (by simpa using hi)
          rw [List.length_append, seg_add]
          exact h1.append h2
        · cases h
    · cases h

theorem repL_length {α : Type} (l : List α) : ∀ n, (repL n l).length = n * l.length
  | 0 => by simp [repL]
  | n + 1 => by rw [repL, List.length_append, repL_length l n, Nat.succ_mul]

theorem repL_ok {cs : List Value} {ks : List CK} {z : Nat} (hz : ks.length = z) : ∀ (n : Nat), (∀ i, i < n → Mt w ks ((cs.drop (i * z)).take z)) → Mt w (repL n ks) (cs.take (n * z))
  | 0, _ => by simpa [repL] using Mt.nil
  | n + 1, h => by
    have ih := repL_ok hz n fun i hi => h i (by omega)
    rw [repL, Nat.succ_mul, List.take_add]
    exact ih.append (h n (by omega))

theorem ckOf_ok : ∀ (d : Nat) (t : TypeId) (ks : List CK), ckOf P d t = some ks → ∀ n cs y, DataW.trod enc P w base spare held n t cs = some y → Mt w ks cs
  | 0, _, _, h => by simp [ckOf] at h
  | d + 1, t, ks, h => by
    intro n cs y hy
    unfold ckOf at h
    split at h
    · rename_i k hk
      cases h
      obtain ⟨z, rfl, _, hw⟩ := DataW.trod_int hk hy
      exact .cons ⟨z, rfl, hw⟩ .nil
    · rename_i hk
      cases h
      obtain ⟨b, rfl, _⟩ := DataW.trod_bool hk hy
      exact .cons ⟨b, rfl⟩ .nil
    · rename_i fs hk
      split at h
      · rename_i l hl
        cases hc : Nat.beq (P.cellsOf t) l.length with
        | false => rw [hc, cond_false] at h; cases h
        | true =>
          rw [hc, cond_true] at h
          cases h
          have hlen := Nat.eq_of_beq_eq_true hc
          obtain ⟨xs, m, _, _, hcl, hxl, hg⟩ := DataW.trod_struct hk hy
          have := ckFs_ok (ckOf_ok d) fs.toList 0 _ hl (cs := cs) fun i fd hi => by
            have hi' : fs[i]? = some fd := by simpa using hi
            have hlt : i < xs.length := by rw [hxl]; exact (Array.getElem?_eq_some_iff.1 hi').1
            exact ⟨m, xs[i], by rw [hg i fd hi']; exact List.getElem?_eq_getElem hlt⟩
          rwa [List.drop_zero, List.take_of_length_le (by omega)] at this
      · cases h
    · rename_i m e hk
      split at h
      · rename_i l hl
        cases hc : (Nat.beq (P.cellsOf e) l.length && Nat.beq (P.cellsOf t) (m * l.length)) with
        | false => rw [hc, cond_false] at h; cases h
        | true =>
          rw [hc, cond_true] at h
          cases h
          simp only [Bool.and_eq_true] at hc
          have e1 := Nat.eq_of_beq_eq_true hc.1
          have e2 := Nat.eq_of_beq_eq_true hc.2
          obtain ⟨xs, q, _, _, hcl, hxl, hg⟩ := DataW.trod_array hk hy
          have := repL_ok (w := w) (cs := cs) (ks := l) rfl m fun i hi => by
            have h1 := hg i hi
            rw [e1, List.getElem?_eq_getElem (by omega)] at h1
            exact ckOf_ok d _ _ hl _ _ _ h1
          rwa [List.take_of_length_le (by omega)] at this
      · cases h
    · rename_i e hk
      split at h
      · rename_i ck hck
        split at h
        · rename_i l hl
          cases hc : (Nat.beq (P.cellsOf e) l.length && Nat.blt 0 l.length) with
          | false => rw [hc, cond_false] at h; cases h
          | true =>
            rw [hc, cond_true] at h
            cases h
            simp only [Bool.and_eq_true] at hc
            obtain ⟨v, xs, rfl, h1, h2⟩ := sl_open (en := fun r => enV r l 0) (ok := okV l) (z := l.length) (Nat.lt_of_succ_le (Nat.le_of_ble_eq_true hc.2)) (fun x => enV_length _ _ _) hk (Nat.eq_of_beq_eq_true hc.1)
              (fun n cs y _ hy => (ckOf_ok d _ _ hck _ _ _ hy).flat hl) hy
            exact .cons ⟨xs, h1, h2⟩ .nil
        · cases h
      · cases h
    · cases h

/-- An argument, opened. -/
theorem open_agg {t : TypeId} {r : Reach} {b0 : Nat} {v : Value} {d : DataW H} {p : List MemPlace} {dp : Nat} {ks : List CK} (hk : ckOf P dp t = some ks) (hs : (∃ fs, P.underlying t = some (.struct fs)) ∨ ∃ n e, P.underlying t = some (.array n e))
    (hval : Value.okWide P w r b0 t v) (h : DataW.Trod enc P w base spare held t v d p) : ∃ x : RowW, v = .agg (enW x ks 0).toArray ∧ okW w ks x := by
  obtain ⟨cs, rfl⟩ : ∃ cs, v = .agg cs := by
    rcases hs with ⟨fs, hs⟩ | ⟨n, e, hs⟩
    · obtain ⟨cs, h1, _⟩ := okWide_struct hs hval; exact ⟨cs, h1⟩
    · obtain ⟨cs, h1, _⟩ := okWide_arr hs hval; exact ⟨cs, h1⟩
  obtain ⟨fuel, hf⟩ := h
  have hm := ckOf_ok dp t ks hk _ _ _ hf
  obtain ⟨h1, h2⟩ := hm.row
  refine ⟨_, ?_, h2⟩
  rw [← h1]
  simp [Value.cells]
theorem open_slT {t : TypeId} {r : Reach} {b0 : Nat} {v : Value} {d : DataW H} {p : List MemPlace} {dp : Nat} {l : List (Option IntKind)} {e : TypeId} (hk : ckOf P dp t = some [.tab l]) (hs : P.underlying t = some (.slice e))
    (hval : Value.okWide P w r b0 t v) (h : DataW.Trod enc P w base spare held t v d p) : ∃ xs, SlT l w v xs := by
  obtain ⟨a, len, cap, rfl⟩ := okWide_slice hs hval
  obtain ⟨fuel, hf⟩ := h
  have hm := ckOf_ok dp t _ hk _ _ _ hf
  have e : (Value.slice a len cap).cells.toList = [Value.slice a len cap] := rfl
  rw [e] at hm
  cases hm with
  | cons h _ => exact h
end

/-! ## Slices as tables -/

def tabV (xs : List RowV) : Tab := ⟨xs.length, fun j i => (xs.getD i RowV.zero).c j, fun j i => (xs.getD i RowV.zero).g j⟩

theorem rowCs_sl {c c' : Nat → Nat → Int} {g g' : Nat → Nat → Bool} {i i' : Nat} (hc : ∀ j, c j i = c' j i') (hg : ∀ j, g j i = g' j i') : ∀ (ks : List (Option IntKind)) (j : Nat), rowCs c g i ks j = rowCs c' g' i' ks j
  | [], _ => rfl
  | some k :: ks, j => by rw [rowCs, rowCs, hc j, rowCs_sl hc hg ks]
  | none :: ks, j => by rw [rowCs, rowCs, hg j, rowCs_sl hc hg ks]

theorem enV_rel {ρ : Env} {σ : Mp} (r : RowV) : ∀ (ks : List (Option IntKind)) (j : Nat), VRl ρ σ (rowCs (fun j _ => r.c j) (fun j _ => r.g j) 0 ks j) (enV r ks j)
  | [], _ => .nil
  | some k :: ks, j => .cons (.int k (.x (r.c j))) (enV_rel r ks (j + 1))
  | none :: ks, j => .cons (.bool (.x (r.g j))) (enV_rel r ks (j + 1))

theorem ArgAt.rows_eq {ρ : Env} {w : World} {n z : Nat} {f g : Nat → List CV} {hf : ∀ j, (f j).length = z ∧ (f j).all CV.flat = true} {hg : ∀ j, (g j).length = z ∧ (g j).all CV.flat = true} {lo : Option Loc} (e : f = g) (h : ArgAt ρ w ⟨.arg n z f hf, z, true, none⟩ lo) : ArgAt ρ w ⟨.arg n z g hg, z, true, none⟩ lo := by
  subst e; exact h

structure SlV where
  v : Value
  ks : List (Option IntKind)
  xs : List RowV

noncomputable def sigV (w : World) (S : List SlV) : Mp := fun b => match S[b]? with | some s => locOf w s.v s.ks.length | none => none
def heapV : Nat → List SlV → List (Nat × Blk)
  | _, [] => []
  | i, s :: l => (i, tabB s.ks (tabV s.xs)) :: heapV (i + 1) l

theorem sigV_none {w : World} {S : List SlV} {b : Nat} (h : S.length ≤ b) : sigV w S b = none := by
  unfold sigV; rw [List.getElem?_eq_none h]

theorem SlT.both {ρ : Env} {w : World} {S : List SlV} {b : Nat} {s : SlV} (hb : S[b]? = some s) (h : SlT s.ks w s.v s.xs) : VR ρ (sigV w S) (.sla b s.ks.length 0 s.xs.length) s.v ∧ ArgAt ρ w (tabB s.ks (tabV s.xs)) (sigV w S b) := by
  obtain ⟨h1, h2⟩ := SlR.rel (ρ := ρ) (σ := sigV w S) (b := b) (ec := fun r => rowCs (fun j _ => r.c j) (fun j _ => r.g j) 0 s.ks 0) (d := RowV.zero) h.1 (fun x => enV_length _ _ _) (fun σ x => enV_rel x s.ks 0) (fun j => rowCs_ok _ _ _ _ _) (by unfold sigV; rw [hb])
  have e : (fun j => rowCs (fun j' _ => (s.xs.getD j RowV.zero).c j') (fun j' _ => (s.xs.getD j RowV.zero).g j') 0 s.ks 0) = fun i => rowCs (tabV s.xs).c (tabV s.xs).g i s.ks 0 := funext fun i => rowCs_sl (c := fun j' _ => (s.xs.getD i RowV.zero).c j') (g := fun j' _ => (s.xs.getD i RowV.zero).g j') (fun _ => rfl) (fun _ => rfl) _ _
  have h3 := ArgAt.rows_eq (hg := fun i => rowCs_ok (tabV s.xs).c (tabV s.xs).g i s.ks 0) e h2
  exact ⟨h1, h3⟩

theorem SlT.rel {ρ : Env} {w : World} {S : List SlV} (b : Nat) {s : SlV} (hb : S[b]? = some s) (h : SlT s.ks w s.v s.xs) : VR ρ (sigV w S) (.sla b s.ks.length 0 s.xs.length) s.v := (h.both hb).1

theorem SlT.len {ks : List (Option IntKind)} {w : World} {v : Value} {xs : List RowV} (h : SlT ks w v xs) : xs.length ≤ 9223372036854775807 := by
  obtain ⟨⟨a, cap, _, _, hl, _⟩, _⟩ := h
  exact hl
theorem SlT.wf {ks : List (Option IntKind)} {w : World} {v : Value} {xs : List RowV} (h : SlT ks w v xs) (j : Nat) (k : IntKind) (hk : ks[j]? = some (some k)) (h0 : (Lit.int k 0).wf = true) (i : Nat) : (Lit.int k ((tabV xs).c j i)).wf = true := by
  show (Lit.int k ((xs.getD i RowV.zero).c j)).wf = true
  by_cases hi : i < xs.length
  · rw [List.getD_eq_getElem?_getD, List.getElem?_eq_getElem hi]
    exact h.2 _ (List.getElem_mem hi) j k hk
  · rw [List.getD_eq_getElem?_getD, List.getElem?_eq_none (by omega)]
    exact h0

theorem heapV_get {ρ : Env} {w : World} : ∀ (l : List SlV) (i : Nat) (S : List SlV), (∀ j s, l[j]? = some s → S[i + j]? = some s) → (∀ s ∈ l, SlT s.ks w s.v s.xs) → ∀ b k, (mkH (heapV i l)).get b = some k → ArgAt ρ w k (sigV w S b)
  | [], i, S, _, _, b, k, h => by
    simp only [heapV, mkH] at h
    cases h
  | s :: l, i, S, hS, hT, b, k, h => by
    have h : ((mkH (heapV (i + 1) l)).set i (tabB s.ks (tabV s.xs))).get b = some k := h
    rw [Tr.get_set] at h
    split at h
    · rename_i hb
      cases h
      have := hS 0 s rfl
      rw [Nat.add_zero] at this
      rw [hb]
      exact ((hT s (by simp)).both this).2
    · exact heapV_get l (i + 1) S (fun j s' hj => by rw [show i + 1 + j = i + (j + 1) by omega]; exact hS (j + 1) s' (by simpa using hj)) (fun s' hs => hT s' (by simp [hs])) b k h

theorem argsV {ρ : Env} {w : World} (S : List SlV) (base : Nat) (hS : ∀ s ∈ S, SlT s.ks w s.v s.xs) (hL : Laid w) : HR ρ (sigV w S) (curOf (mkH (heapV 0 S)) base) w :=
  HR.ofArgs hL fun i k _ hk => heapV_get S 0 S (fun j s h => by rw [Nat.zero_add]; exact h) hS i k hk

end Go.Proofs.YtbnnackoakhmdaaDoor.Cx
