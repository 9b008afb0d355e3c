/- acme/wires.Shows as an automaton. Made by tools/cxauto.py. -/
import Derived.Test.YthhceoendicboaaGreatProg
import Derived.WalkKit
import Derived.WalkSpells
import Derived.WalkLawsBesides
import Derived.RegionTactic
import Derived.ChangeAlike
import Derived.Deep.QuietTactic
import Derived.BigQuiet
import Derived.Lib.Hide
import Derived.Handy
import Derived.StillTail
import Derived.Deep.Quiet
import Derived.Lib.QuietBelow
import Derived.KernelRfl
import Derived.Test.YthhceoendicboaaGreatPkWBests5

namespace Go.Proofs.YthhceoendicboaaGreat.Cx
set_option linter.unusedVariables false
set_option linter.unusedSimpArgs false
set_option maxRecDepth 100000
open Go Go.Proofs Go.RowKit

noncomputable abbrev wshCode : Code := funcCode Tryz.f8


abbrev wshN := Empty

abbrev wshR := Int × Int

noncomputable def wshD0 (a0 : Nat) (a1 : Nat → Int) (a2 : Nat → Int) (a3 : Int) (a4 : Int) (a5 : Int) (a6 : Int) (a7 : Int) (a8 : Int) (a9 : Int) (a10 : Int) (a11 : Int) (a12 : Int) (a13 : Int) (a14 : Int) (a15 : Int) (a16 : Int) (a17 : Int) (a18 : Int) (a19 : Int) (a20 : Int) (a21 : Int) (a22 : Int) : DD (Lf wshN wshR) :=
 .must (decide (0 + a0 ≤ a0))
   (.must (ShapeOk [some IntKind.i64, some IntKind.i64] (tabOf a0 fun i => [CV.int IntKind.i64 (IE.x (a1 (0 + i))), CV.int IntKind.i64 (IE.x (a2 (0 + i)))]) fun i => [CV.int IntKind.i64 (IE.x (a1 (0 + i))), CV.int IntKind.i64 (IE.x (a2 (0 + i)))])
   (.must (AF.fin (wchA a0 (fun i => a1 (0 + i)) (fun i => a2 (0 + i)) a3 a4 a5 a6 a7 a8 1 (fun i => List.getD [a9] i 0) (fun i => List.getD [a10] i 0) (fun i => List.getD [a11] i 0) (fun i => List.getD [a12] i 0) (fun i => List.getD [a13] i 0) fun i => List.getD [a14] i 0))
   (.ask (Cm.run Cm.neq (AF.val (wchA a0 (fun i => a1 (0 + i)) (fun i => a2 (0 + i)) a3 a4 a5 a6 a7 a8 1 (fun i => List.getD [a9] i 0) (fun i => List.getD [a10] i 0) (fun i => List.getD [a11] i 0) (fun i => List.getD [a12] i 0) (fun i => List.getD [a13] i 0) fun i => List.getD [a14] i 0)) 0)
   (.leaf (.done (0, AF.val (wchA a0 (fun i => a1 (0 + i)) (fun i => a2 (0 + i)) a3 a4 a5 a6 a7 a8 1 (fun i => List.getD [a9] i 0) (fun i => List.getD [a10] i 0) (fun i => List.getD [a11] i 0) (fun i => List.getD [a12] i 0) (fun i => List.getD [a13] i 0) fun i => List.getD [a14] i 0)) []))
   (.must (decide (0 + a0 ≤ a0))
   (.must (ShapeOk [some IntKind.i64, some IntKind.i64] (tabOf a0 fun i => [CV.int IntKind.i64 (IE.x (a1 (0 + i))), CV.int IntKind.i64 (IE.x (a2 (0 + i)))]) fun i => [CV.int IntKind.i64 (IE.x (a1 (0 + i))), CV.int IntKind.i64 (IE.x (a2 (0 + i)))])
   (.must (AF.fin (wit_A a0 (fun i => a1 (0 + i)) (fun i => a2 (0 + i)) a3 a4 a5 a6 a7 a8 a9 a10 a11 a12 a13 a14 a15 a16 a17 a18 a19 a20 a21 a22))
   (.ask (!AF.val (wit_A a0 (fun i => a1 (0 + i)) (fun i => a2 (0 + i)) a3 a4 a5 a6 a7 a8 a9 a10 a11 a12 a13 a14 a15 a16 a17 a18 a19 a20 a21 a22))
   (.leaf (.done (0, 2) []))
   (.must (decide (0 ≤ a16))
   (.must (decide (a16 < (↑a0 : Int)))
   (.must (decide (0 + Int.toNat a16 < a0))
   (.ask (Cm.run Cm.gtr (Ar.run Ar.rem IntKind.i64 (Ar.run Ar.sub IntKind.i64 0 (Ar.run Ar.sub IntKind.i64 (Ar.run Ar.mul IntKind.i64 (a1 (0 + Int.toNat a16)) (Ar.run Ar.add IntKind.i64 (Ar.run Ar.add IntKind.i64 a18 a19) (Ar.run Ar.mul IntKind.i64 2 a20))) (Ar.run Ar.mul IntKind.i64 (Ar.run Ar.mul IntKind.i64 4 (a2 (0 + Int.toNat a16))) a17))) 4000) 0)
   (.leaf (.done (Ar.run Ar.add IntKind.i64 (Ar.run Ar.sub IntKind.i64 (Ar.run Ar.add IntKind.i64 a15 (Ar.run Ar.sub IntKind.i64 0 (Ar.run Ar.add IntKind.i64 (Ar.run Ar.quo IntKind.i64 (Ar.run Ar.sub IntKind.i64 0 (Ar.run Ar.sub IntKind.i64 (Ar.run Ar.mul IntKind.i64 (a1 (0 + Int.toNat a16)) (Ar.run Ar.add IntKind.i64 (Ar.run Ar.add IntKind.i64 a18 a19) (Ar.run Ar.mul IntKind.i64 2 a20))) (Ar.run Ar.mul IntKind.i64 (Ar.run Ar.mul IntKind.i64 4 (a2 (0 + Int.toNat a16))) a17))) 4000) 1))) a21) a22, 0) []))
   (.leaf (.done (Ar.run Ar.add IntKind.i64 (Ar.run Ar.sub IntKind.i64 (Ar.run Ar.add IntKind.i64 a15 (Ar.run Ar.sub IntKind.i64 0 (Ar.run Ar.quo IntKind.i64 (Ar.run Ar.sub IntKind.i64 0 (Ar.run Ar.sub IntKind.i64 (Ar.run Ar.mul IntKind.i64 (a1 (0 + Int.toNat a16)) (Ar.run Ar.add IntKind.i64 (Ar.run Ar.add IntKind.i64 a18 a19) (Ar.run Ar.mul IntKind.i64 2 a20))) (Ar.run Ar.mul IntKind.i64 (Ar.run Ar.mul IntKind.i64 4 (a2 (0 + Int.toNat a16))) a17))) 4000))) a21) a22, 0) [])))))))))))))

noncomputable def wshD (a0 : Nat) (a1 : Nat → Int) (a2 : Nat → Int) (a3 : Int) (a4 : Int) (a5 : Int) (a6 : Int) (a7 : Int) (a8 : Int) (a9 : Int) (a10 : Int) (a11 : Int) (a12 : Int) (a13 : Int) (a14 : Int) (a15 : Int) (a16 : Int) (a17 : Int) (a18 : Int) (a19 : Int) (a20 : Int) (a21 : Int) (a22 : Int) : wshN → DD (Lf wshN wshR) := fun a => nomatch a

noncomputable def wshA (a0 : Nat) (a1 : Nat → Int) (a2 : Nat → Int) (a3 : Int) (a4 : Int) (a5 : Int) (a6 : Int) (a7 : Int) (a8 : Int) (a9 : Int) (a10 : Int) (a11 : Int) (a12 : Int) (a13 : Int) (a14 : Int) (a15 : Int) (a16 : Int) (a17 : Int) (a18 : Int) (a19 : Int) (a20 : Int) (a21 : Int) (a22 : Int) : AF wshN wshR where
  code := wshCode
  base := 1
  nt := 44
  m := 400
  un := []
  W := []
  h0 := [(0, ⟨.arg a0 2 (fun i => [.int .i64 (.x (a1 i)), .int .i64 (.x (a2 i))]) (fun _ => ⟨rfl, rfl⟩), 2, true, none⟩)]
  args := [.agg [.sla 0 2 0 a0, .int .i64 (.x a3), .int .i64 (.x a4), .int .i64 (.x a5), .int .i64 (.x a6), .int .i64 (.x a7), .int .i64 (.x a8)], .agg [.int .i64 (.x a9), .int .i64 (.x a10), .int .i64 (.x a11), .int .i64 (.x a12), .int .i64 (.x a13), .int .i64 (.x a14)], .agg [.int .i64 (.x a15), .int .i64 (.x a16), .int .i64 (.x a17), .int .i64 (.x a18), .int .i64 (.x a19), .int .i64 (.x a20), .int .i64 (.x a21), .int .i64 (.x a22)]]
  res := (Tryz.f8).results.toList
  path := fun a => nomatch a
  pd := fun a => nomatch a
  D0 := wshD0 a0 a1 a2 a3 a4 a5 a6 a7 a8 a9 a10 a11 a12 a13 a14 a15 a16 a17 a18 a19 a20 a21 a22
  D := wshD a0 a1 a2 a3 a4 a5 a6 a7 a8 a9 a10 a11 a12 a13 a14 a15 a16 a17 a18 a19 a20 a21 a22
  rc := (fun v => .tup [.int .i64 (.x v.1), .int .i64 (.x v.2)])
  rh := (fun v => [])
  rn := (fun v => 1)
  rx := (fun v => [])
  rgo := (fun _ => none)


theorem wshstart (a0 : Nat) (a1 : Nat → Int) (a2 : Nat → Int) (a3 : Int) (a4 : Int) (a5 : Int) (a6 : Int) (a7 : Int) (a8 : Int) (a9 : Int) (a10 : Int) (a11 : Int) (a12 : Int) (a13 : Int) (a14 : Int) (a15 : Int) (a16 : Int) (a17 : Int) (a18 : Int) (a19 : Int) (a20 : Int) (a21 : Int) (a22 : Int) : AF.edgeOk (wshA a0 a1 a2 a3 a4 a5 a6 a7 a8 a9 a10 a11 a12 a13 a14 a15 a16 a17 a18 a19 a20 a21 a22) (ctxOf Tryz.prog memo0) (wshD0 a0 a1 a2 a3 a4 a5 a6 a7 a8 a9 a10 a11 a12 a13 a14 a15 a16 a17 a18 a19 a20 a21 a22) (AF.run0 (wshA a0 a1 a2 a3 a4 a5 a6 a7 a8 a9 a10 a11 a12 a13 a14 a15 a16 a17 a18 a19 a20 a21 a22) (ctxOf Tryz.prog (memoS 28 wit_P wit_F wit_W wit_H 1 (memoS 7 wchP wchF wchW wchH 2 memo0)))) := by unfold AF.edgeOk; kernel_rfl

theorem wshok (a0 : Nat) (a1 : Nat → Int) (a2 : Nat → Int) (a3 : Int) (a4 : Int) (a5 : Int) (a6 : Int) (a7 : Int) (a8 : Int) (a9 : Int) (a10 : Int) (a11 : Int) (a12 : Int) (a13 : Int) (a14 : Int) (a15 : Int) (a16 : Int) (a17 : Int) (a18 : Int) (a19 : Int) (a20 : Int) (a21 : Int) (a22 : Int) : (wshA a0 a1 a2 a3 a4 a5 a6 a7 a8 a9 a10 a11 a12 a13 a14 a15 a16 a17 a18 a19 a20 a21 a22).Ok Tryz.prog (ctxOf Tryz.prog (memoS 28 wit_P wit_F wit_W wit_H 1 (memoS 7 wchP wchF wchW wchH 2 memo0))) where
  regs := by kernel_rfl
  h0 := by kernel_rfl
  start := wshstart a0 a1 a2 a3 a4 a5 a6 a7 a8 a9 a10 a11 a12 a13 a14 a15 a16 a17 a18 a19 a20 a21 a22
  node := fun a _ => nomatch a
  pd := fun a => nomatch a
  le := fun a => nomatch a
  rd := fun v => ⟨⟨fa_nil, fa_nil, fa_nil, rfl⟩, rfl⟩
  wb := rfl


theorem wshhR {ρ : Env} (a0 : Nat) (a1 : Nat → Int) (a2 : Nat → Int) (a3 : Int) (a4 : Int) (a5 : Int) (a6 : Int) (a7 : Int) (a8 : Int) (a9 : Int) (a10 : Int) (a11 : Int) (a12 : Int) (a13 : Int) (a14 : Int) (a15 : Int) (a16 : Int) (a17 : Int) (a18 : Int) (a19 : Int) (a20 : Int) (a21 : Int) (a22 : Int) (hM : MemoOk Tryz.prog (ctxOf Tryz.prog (memoS 28 wit_P wit_F wit_W wit_H 1 (memoS 7 wchP wchF wchW wchH 2 memo0))) ρ) : ∀ X a q n D, FxOk ρ X → X.base = (wshA a0 a1 a2 a3 a4 a5 a6 a7 a8 a9 a10 a11 a12 a13 a14 a15 a16 a17 a18 a19 a20 a21 a22).base → X.nt = (wshA a0 a1 a2 a3 a4 a5 a6 a7 a8 a9 a10 a11 a12 a13 a14 a15 a16 a17 a18 a19 a20 a21 a22).nt → X.W = (wshA a0 a1 a2 a3 a4 a5 a6 a7 a8 a9 a10 a11 a12 a13 a14 a15 a16 a17 a18 a19 a20 a21 a22).W → (wshA a0 a1 a2 a3 a4 a5 a6 a7 a8 a9 a10 a11 a12 a13 a14 a15 a16 a17 a18 a19 a20 a21 a22).rgo a = some q → q n = some D → (wshA a0 a1 a2 a3 a4 a5 a6 a7 a8 a9 a10 a11 a12 a13 a14 a15 a16 a17 a18 a19 a20 a21 a22).RangeOk Tryz.prog ρ X a D := AF.noRange rfl

theorem wshctr {ρ : Env} (a0 : Nat) (a1 : Nat → Int) (a2 : Nat → Int) (a3 : Int) (a4 : Int) (a5 : Int) (a6 : Int) (a7 : Int) (a8 : Int) (a9 : Int) (a10 : Int) (a11 : Int) (a12 : Int) (a13 : Int) (a14 : Int) (a15 : Int) (a16 : Int) (a17 : Int) (a18 : Int) (a19 : Int) (a20 : Int) (a21 : Int) (a22 : Int) {n : Nat} {v : wshR} (hM : MemoOk Tryz.prog (ctxOf Tryz.prog (memoS 28 wit_P wit_F wit_W wit_H 1 (memoS 7 wchP wchF wchW wchH 2 memo0))) ρ) (hv : (wshA a0 a1 a2 a3 a4 a5 a6 a7 a8 a9 a10 a11 a12 a13 a14 a15 a16 a17 a18 a19 a20 a21 a22).run n = some v) :
    Ctr Tryz.prog ρ 8 (wshA a0 a1 a2 a3 a4 a5 a6 a7 a8 a9 a10 a11 a12 a13 a14 a15 a16 a17 a18 a19 a20 a21 a22).args (wshA a0 a1 a2 a3 a4 a5 a6 a7 a8 a9 a10 a11 a12 a13 a14 a15 a16 a17 a18 a19 a20 a21 a22).H0 (wshA a0 a1 a2 a3 a4 a5 a6 a7 a8 a9 a10 a11 a12 a13 a14 a15 a16 a17 a18 a19 a20 a21 a22).base (wshA a0 a1 a2 a3 a4 a5 a6 a7 a8 a9 a10 a11 a12 a13 a14 a15 a16 a17 a18 a19 a20 a21 a22).W ((wshA a0 a1 a2 a3 a4 a5 a6 a7 a8 a9 a10 a11 a12 a13 a14 a15 a16 a17 a18 a19 a20 a21 a22).rc v) (putH (wshA a0 a1 a2 a3 a4 a5 a6 a7 a8 a9 a10 a11 a12 a13 a14 a15 a16 a17 a18 a19 a20 a21 a22).H0 ((wshA a0 a1 a2 a3 a4 a5 a6 a7 a8 a9 a10 a11 a12 a13 a14 a15 a16 a17 a18 a19 a20 a21 a22).rh v ++ (wshA a0 a1 a2 a3 a4 a5 a6 a7 a8 a9 a10 a11 a12 a13 a14 a15 a16 a17 a18 a19 a20 a21 a22).rx v)) ((wshA a0 a1 a2 a3 a4 a5 a6 a7 a8 a9 a10 a11 a12 a13 a14 a15 a16 a17 a18 a19 a20 a21 a22).rn v) :=
  AF.ctr try_ok hM (wshok a0 a1 a2 a3 a4 a5 a6 a7 a8 a9 a10 a11 a12 a13 a14 a15 a16 a17 a18 a19 a20 a21 a22) (fn := Tryz.f8) Tryz.func8 rfl rfl (Nat.le_of_ble_eq_true rfl) rfl (wshhR a0 a1 a2 a3 a4 a5 a6 a7 a8 a9 a10 a11 a12 a13 a14 a15 a16 a17 a18 a19 a20 a21 a22 hM) hv


theorem wshmem {ρ : Env} : MemoOk Tryz.prog (ctxOf Tryz.prog (memoS 28 wit_P wit_F wit_W wit_H 1 (memoS 7 wchP wchF wchW wchH 2 memo0))) ρ := (memoS_ok (wit_known wit_mem) (memoS_ok (wchknown wchmem) memo0_ok))


abbrev wshP : List AQ := [.agg [.rows [some .i64, some .i64], .int .i64, .int .i64, .int .i64, .int .i64, .int .i64, .int .i64], .agg [.int .i64, .int .i64, .int .i64, .int .i64, .int .i64, .int .i64], .agg [.int .i64, .int .i64, .int .i64, .int .i64, .int .i64, .int .i64, .int .i64, .int .i64]]

noncomputable def wshF (v : AW) : AF wshN wshR := wshA (v.t.getD 0 .none).n ((v.t.getD 0 .none).c 0) ((v.t.getD 0 .none).c 1) (v.i.getD 0 0) (v.i.getD 1 0) (v.i.getD 2 0) (v.i.getD 3 0) (v.i.getD 4 0) (v.i.getD 5 0) (v.i.getD 6 0) (v.i.getD 7 0) (v.i.getD 8 0) (v.i.getD 9 0) (v.i.getD 10 0) (v.i.getD 11 0) (v.i.getD 12 0) (v.i.getD 13 0) (v.i.getD 14 0) (v.i.getD 15 0) (v.i.getD 16 0) (v.i.getD 17 0) (v.i.getD 18 0) (v.i.getD 19 0)

noncomputable def wshW : wshR → CV := fun v => .tup [.int .i64 (.x v.1), .int .i64 (.x v.2)]
noncomputable def wshH : wshR → List (Nat × Blk) := fun v => []



instance : Inhabited wshR := ⟨(0, 0)⟩
theorem wshknown {ρ : Env} (hM : MemoOk Tryz.prog (ctxOf Tryz.prog (memoS 28 wit_P wit_F wit_W wit_H 1 (memoS 7 wchP wchF wchW wchH 2 memo0))) ρ) : KnownS Tryz.prog ρ 8 wshP wshF wshW wshH 1 where
  fn := ⟨Tryz.f8, Tryz.func8, rfl⟩
  le := Nat.le_of_ble_eq_true rfl
  full := fun r => rfl
  rg := fun r => rfl
  hg := fun r => fa_nil
  ctr := fun v n r h => wshctr (v.t.getD 0 .none).n ((v.t.getD 0 .none).c 0) ((v.t.getD 0 .none).c 1) (v.i.getD 0 0) (v.i.getD 1 0) (v.i.getD 2 0) (v.i.getD 3 0) (v.i.getD 4 0) (v.i.getD 5 0) (v.i.getD 6 0) (v.i.getD 7 0) (v.i.getD 8 0) (v.i.getD 9 0) (v.i.getD 10 0) (v.i.getD 11 0) (v.i.getD 12 0) (v.i.getD 13 0) (v.i.getD 14 0) (v.i.getD 15 0) (v.i.getD 16 0) (v.i.getD 17 0) (v.i.getD 18 0) (v.i.getD 19 0) hM h

end Go.Proofs.YthhceoendicboaaGreat.Cx

/- acme/wires.spread as an automaton. Made by tools/cxauto.py. -/
namespace Go.Proofs.YthhceoendicboaaGreat.Cx
set_option linter.unusedVariables false
set_option linter.unusedSimpArgs false
set_option maxRecDepth 100000
open Go Go.Proofs Go.RowKit

noncomputable abbrev wspCode : Code := funcCode Tryz.f31


inductive wspN where
  | n0 (p0 : Int) (p1 : Int) (p2 : Int)

abbrev wspR := Int

noncomputable def wspD0 (a0 : Nat) (a1 : Nat → Int) (a2 : Nat → Int) (a3 : Int) (a4 : Int) (a5 : Int) (a6 : Int) (a7 : Int) (a8 : Int) (a9 : Int) (a10 : Int) (a11 : Int) (a12 : Int) (a13 : Int) (a14 : Int) : DD (Lf wspN wspR) :=
 .leaf (.next (.n0 9223372036854775807 (-9223372036854775808) 0) [1, 9, 10])

noncomputable def wspD (a0 : Nat) (a1 : Nat → Int) (a2 : Nat → Int) (a3 : Int) (a4 : Int) (a5 : Int) (a6 : Int) (a7 : Int) (a8 : Int) (a9 : Int) (a10 : Int) (a11 : Int) (a12 : Int) (a13 : Int) (a14 : Int) : wspN → DD (Lf wspN wspR)
 | .n0 p0 p1 p2 =>
 .ask (Cm.run Cm.lss p2 (↑a0 : Int))
   (.must (decide (0 ≤ p2))
   (.must (decide (p2 < (↑a0 : Int)))
   (.must (decide (0 + Int.toNat p2 < a0))
   (.leaf (.next (.n0 (Ar.run Ar.mn IntKind.i64 p0 (Ar.run Ar.sub IntKind.i64 (Ar.run Ar.mul IntKind.i64 (a1 (0 + Int.toNat p2)) (Ar.run Ar.add IntKind.i64 (Ar.run Ar.add IntKind.i64 a9 a11) (Ar.run Ar.mul IntKind.i64 2 a13))) (Ar.run Ar.mul IntKind.i64 (Ar.run Ar.mul IntKind.i64 4 (a2 (0 + Int.toNat p2))) a4))) (Ar.run Ar.mx IntKind.i64 p1 (Ar.run Ar.sub IntKind.i64 (Ar.run Ar.mul IntKind.i64 (a1 (0 + Int.toNat p2)) (Ar.run Ar.add IntKind.i64 (Ar.run Ar.add IntKind.i64 a10 a12) (Ar.run Ar.mul IntKind.i64 2 a14))) (Ar.run Ar.mul IntKind.i64 (Ar.run Ar.mul IntKind.i64 4 (a2 (0 + Int.toNat p2))) a3))) (Ar.run Ar.add IntKind.i64 p2 1)) [1, 2, 3])))))
   (.leaf (.done (Ar.run Ar.add IntKind.i64 (Ar.run Ar.sub IntKind.i64 p1 p0) (Ar.run Ar.mul IntKind.i64 4000 (Ar.run Ar.add IntKind.i64 (Ar.run Ar.sub IntKind.i64 a6 a5) (Ar.run Ar.sub IntKind.i64 a8 a7)))) []))

noncomputable def wspA (a0 : Nat) (a1 : Nat → Int) (a2 : Nat → Int) (a3 : Int) (a4 : Int) (a5 : Int) (a6 : Int) (a7 : Int) (a8 : Int) (a9 : Int) (a10 : Int) (a11 : Int) (a12 : Int) (a13 : Int) (a14 : Int) : AF wspN wspR where
  code := wspCode
  base := 1
  nt := 56
  m := 400
  un := []
  W := []
  h0 := [(0, ⟨.arg a0 2 (fun i => [.int .i64 (.x (a1 i)), .int .i64 (.x (a2 i))]) (fun _ => ⟨rfl, rfl⟩), 2, true, none⟩)]
  args := [.agg [.sla 0 2 0 a0, .int .i64 (.x a3), .int .i64 (.x a4), .int .i64 (.x a5), .int .i64 (.x a6), .int .i64 (.x a7), .int .i64 (.x a8)], .agg [.int .i64 (.x a9), .int .i64 (.x a10), .int .i64 (.x a11), .int .i64 (.x a12), .int .i64 (.x a13), .int .i64 (.x a14)]]
  res := (Tryz.f31).results.toList
  path := fun a => match a with
   | .n0 p0 p1 p2 => [1, 1, 1, 0, 1, 0]
  pd := fun a => match a with
   | .n0 p0 p1 p2 => ⟨[(2, .ptr (some (1, 0))), (5, .ptr (some (2, 0))), (6, .ptr (some (3, 0))), (7, .int .i64 (.x p0)), (8, .int .i64 (.x p1)), (17, .sla 0 2 0 a0), (18, .int .i64 (.x (↑a0))), (19, .int .i64 (.x p2))], [(1, ⟨.lit [.sla 0 2 0 a0, .int .i64 (.x a3), .int .i64 (.x a4), .int .i64 (.x a5), .int .i64 (.x a6), .int .i64 (.x a7), .int .i64 (.x a8)], 0, true, none⟩), (2, ⟨.lit [.int .i64 (.x a9), .int .i64 (.x a11), .int .i64 (.x a13)], 0, true, none⟩), (3, ⟨.lit [.int .i64 (.x a10), .int .i64 (.x a12), .int .i64 (.x a14)], 0, true, none⟩)], 4, []⟩
  D0 := wspD0 a0 a1 a2 a3 a4 a5 a6 a7 a8 a9 a10 a11 a12 a13 a14
  D := wspD a0 a1 a2 a3 a4 a5 a6 a7 a8 a9 a10 a11 a12 a13 a14
  rc := (fun v => .int .i64 (.x v))
  rh := (fun v => [])
  rn := (fun v => 1)
  rx := (fun v => [])
  rgo := (fun _ => none)


theorem wspstart (a0 : Nat) (a1 : Nat → Int) (a2 : Nat → Int) (a3 : Int) (a4 : Int) (a5 : Int) (a6 : Int) (a7 : Int) (a8 : Int) (a9 : Int) (a10 : Int) (a11 : Int) (a12 : Int) (a13 : Int) (a14 : Int) : AF.edgeOk (wspA a0 a1 a2 a3 a4 a5 a6 a7 a8 a9 a10 a11 a12 a13 a14) (ctxOf Tryz.prog memo0) (wspD0 a0 a1 a2 a3 a4 a5 a6 a7 a8 a9 a10 a11 a12 a13 a14) (AF.run0 (wspA a0 a1 a2 a3 a4 a5 a6 a7 a8 a9 a10 a11 a12 a13 a14) (ctxOf Tryz.prog memo0)) := by unfold AF.edgeOk; kernel_rfl

theorem wspnode0 (a0 : Nat) (a1 : Nat → Int) (a2 : Nat → Int) (a3 : Int) (a4 : Int) (a5 : Int) (a6 : Int) (a7 : Int) (a8 : Int) (a9 : Int) (a10 : Int) (a11 : Int) (a12 : Int) (a13 : Int) (a14 : Int) (p0 : Int) (p1 : Int) (p2 : Int) : AF.edgeOk (wspA a0 a1 a2 a3 a4 a5 a6 a7 a8 a9 a10 a11 a12 a13 a14) (ctxOf Tryz.prog memo0) (wspD a0 a1 a2 a3 a4 a5 a6 a7 a8 a9 a10 a11 a12 a13 a14 (.n0 p0 p1 p2)) (AF.runN (wspA a0 a1 a2 a3 a4 a5 a6 a7 a8 a9 a10 a11 a12 a13 a14) (ctxOf Tryz.prog memo0) (.n0 p0 p1 p2)) := by unfold AF.edgeOk; kernel_rfl

theorem wspok (a0 : Nat) (a1 : Nat → Int) (a2 : Nat → Int) (a3 : Int) (a4 : Int) (a5 : Int) (a6 : Int) (a7 : Int) (a8 : Int) (a9 : Int) (a10 : Int) (a11 : Int) (a12 : Int) (a13 : Int) (a14 : Int) : (wspA a0 a1 a2 a3 a4 a5 a6 a7 a8 a9 a10 a11 a12 a13 a14).Ok Tryz.prog (ctxOf Tryz.prog memo0) where
  regs := by kernel_rfl
  h0 := by kernel_rfl
  start := wspstart a0 a1 a2 a3 a4 a5 a6 a7 a8 a9 a10 a11 a12 a13 a14
  node := fun a _ => match a with
   | .n0 p0 p1 p2 => wspnode0 a0 a1 a2 a3 a4 a5 a6 a7 a8 a9 a10 a11 a12 a13 a14 p0 p1 p2
  pd := fun a => match a with
   | .n0 p0 p1 p2 => ⟨(fa_cons rfl (fa_cons rfl (fa_cons rfl (fa_cons rfl (fa_cons rfl (fa_cons rfl (fa_cons rfl (fa_cons rfl fa_nil)))))))), (fa_cons ⟨.inl (Nat.le_of_ble_eq_true rfl), rfl, rfl⟩ (fa_cons ⟨.inl (Nat.le_of_ble_eq_true rfl), rfl, rfl⟩ (fa_cons ⟨.inl (Nat.le_of_ble_eq_true rfl), rfl, rfl⟩ fa_nil))), fa_nil, rfl⟩
  le := fun a => match a with
   | .n0 p0 p1 p2 => Nat.le_of_ble_eq_true rfl
  rd := fun v => ⟨⟨fa_nil, fa_nil, fa_nil, rfl⟩, rfl⟩
  wb := rfl


theorem wsphR {ρ : Env} (a0 : Nat) (a1 : Nat → Int) (a2 : Nat → Int) (a3 : Int) (a4 : Int) (a5 : Int) (a6 : Int) (a7 : Int) (a8 : Int) (a9 : Int) (a10 : Int) (a11 : Int) (a12 : Int) (a13 : Int) (a14 : Int) (hM : MemoOk Tryz.prog (ctxOf Tryz.prog memo0) ρ) : ∀ X a q n D, FxOk ρ X → X.base = (wspA a0 a1 a2 a3 a4 a5 a6 a7 a8 a9 a10 a11 a12 a13 a14).base → X.nt = (wspA a0 a1 a2 a3 a4 a5 a6 a7 a8 a9 a10 a11 a12 a13 a14).nt → X.W = (wspA a0 a1 a2 a3 a4 a5 a6 a7 a8 a9 a10 a11 a12 a13 a14).W → (wspA a0 a1 a2 a3 a4 a5 a6 a7 a8 a9 a10 a11 a12 a13 a14).rgo a = some q → q n = some D → (wspA a0 a1 a2 a3 a4 a5 a6 a7 a8 a9 a10 a11 a12 a13 a14).RangeOk Tryz.prog ρ X a D := AF.noRange rfl

theorem wspctr {ρ : Env} (a0 : Nat) (a1 : Nat → Int) (a2 : Nat → Int) (a3 : Int) (a4 : Int) (a5 : Int) (a6 : Int) (a7 : Int) (a8 : Int) (a9 : Int) (a10 : Int) (a11 : Int) (a12 : Int) (a13 : Int) (a14 : Int) {n : Nat} {v : wspR} (hM : MemoOk Tryz.prog (ctxOf Tryz.prog memo0) ρ) (hv : (wspA a0 a1 a2 a3 a4 a5 a6 a7 a8 a9 a10 a11 a12 a13 a14).run n = some v) :
    Ctr Tryz.prog ρ 31 (wspA a0 a1 a2 a3 a4 a5 a6 a7 a8 a9 a10 a11 a12 a13 a14).args (wspA a0 a1 a2 a3 a4 a5 a6 a7 a8 a9 a10 a11 a12 a13 a14).H0 (wspA a0 a1 a2 a3 a4 a5 a6 a7 a8 a9 a10 a11 a12 a13 a14).base (wspA a0 a1 a2 a3 a4 a5 a6 a7 a8 a9 a10 a11 a12 a13 a14).W ((wspA a0 a1 a2 a3 a4 a5 a6 a7 a8 a9 a10 a11 a12 a13 a14).rc v) (putH (wspA a0 a1 a2 a3 a4 a5 a6 a7 a8 a9 a10 a11 a12 a13 a14).H0 ((wspA a0 a1 a2 a3 a4 a5 a6 a7 a8 a9 a10 a11 a12 a13 a14).rh v ++ (wspA a0 a1 a2 a3 a4 a5 a6 a7 a8 a9 a10 a11 a12 a13 a14).rx v)) ((wspA a0 a1 a2 a3 a4 a5 a6 a7 a8 a9 a10 a11 a12 a13 a14).rn v) :=
  AF.ctr try_ok hM (wspok a0 a1 a2 a3 a4 a5 a6 a7 a8 a9 a10 a11 a12 a13 a14) (fn := Tryz.f31) Tryz.func31 rfl rfl (Nat.le_of_ble_eq_true rfl) rfl (wsphR a0 a1 a2 a3 a4 a5 a6 a7 a8 a9 a10 a11 a12 a13 a14 hM) hv


theorem wspmem {ρ : Env} : MemoOk Tryz.prog (ctxOf Tryz.prog memo0) ρ := memo0_ok


abbrev wspP : List AQ := [.agg [.rows [some .i64, some .i64], .int .i64, .int .i64, .int .i64, .int .i64, .int .i64, .int .i64], .agg [.int .i64, .int .i64, .int .i64, .int .i64, .int .i64, .int .i64]]

noncomputable def wspF (v : AW) : AF wspN wspR := wspA (v.t.getD 0 .none).n ((v.t.getD 0 .none).c 0) ((v.t.getD 0 .none).c 1) (v.i.getD 0 0) (v.i.getD 1 0) (v.i.getD 2 0) (v.i.getD 3 0) (v.i.getD 4 0) (v.i.getD 5 0) (v.i.getD 6 0) (v.i.getD 7 0) (v.i.getD 8 0) (v.i.getD 9 0) (v.i.getD 10 0) (v.i.getD 11 0)

noncomputable def wspW : wspR → CV := fun v => .int .i64 (.x v)
noncomputable def wspH : wspR → List (Nat × Blk) := fun v => []



instance : Inhabited wspR := ⟨0⟩
theorem wspknown {ρ : Env} (hM : MemoOk Tryz.prog (ctxOf Tryz.prog memo0) ρ) : KnownS Tryz.prog ρ 31 wspP wspF wspW wspH 1 where
  fn := ⟨Tryz.f31, Tryz.func31, rfl⟩
  le := Nat.le_of_ble_eq_true rfl
  full := fun r => rfl
  rg := fun r => rfl
  hg := fun r => fa_nil
  ctr := fun v n r h => wspctr (v.t.getD 0 .none).n ((v.t.getD 0 .none).c 0) ((v.t.getD 0 .none).c 1) (v.i.getD 0 0) (v.i.getD 1 0) (v.i.getD 2 0) (v.i.getD 3 0) (v.i.getD 4 0) (v.i.getD 5 0) (v.i.getD 6 0) (v.i.getD 7 0) (v.i.getD 8 0) (v.i.getD 9 0) (v.i.getD 10 0) (v.i.getD 11 0) hM h

end Go.Proofs.YthhceoendicboaaGreat.Cx

/- Contracts of package exact's numbers: the greatest common divisor, ratios, rounding up. Over Int. -/
namespace Go.Proofs.YthhceoendicboaaGreat
open Go.RowKit

/-- A block of cells that holds just these values, and may be written. -/
def Box (w : World) (g : Nat) (cs : Array Value) : Prop := g < w.heap.size ∧ (∀ i, w.cell? ⟨g, i, none⟩ = cs[i]?) ∧ ∀ i, w.frozen? ⟨g, i, none⟩ = false

theorem cell_at {w : World} {g : Nat} {cs : Array Value} {t : TypeId} {fr : Nat × Nat} (h : w.heap[g]? = some (.cells cs t fr)) (i : Nat) : w.cell? ⟨g, i, none⟩ = cs[i]? := by simp [World.cell?, h]
theorem free_at {w : World} {g : Nat} {cs : Array Value} {t : TypeId} (h : w.heap[g]? = some (.cells cs t (0, 0))) (i : Nat) : w.frozen? ⟨g, i, none⟩ = false := by simp [World.frozen?, h]

theorem Box.new (w : World) (cs : Array Value) (T : TypeId) : Box (w.alloc (.cells cs T)) w.heap.size cs := by
  have h := (MapKept.heap_alloc w (.cells cs T)).1
  exact ⟨by simp, cell_at h, free_at h⟩

theorem Box.newAt {n : Nat} (w : World) (cs : Array Value) (T : TypeId) (hn : n = w.heap.size) : Box (w.alloc (.cells cs T)) n cs := by
  subst hn
  exact Box.new w cs T

theorem Box.below {w w' : World} {g : Nat} {cs : Array Value} (h : Box w g cs) (hb : Below w.heap.size w w') : Box w' g cs :=
  ⟨Nat.lt_of_lt_of_le h.1 hb.size, fun i => (hb.cell (p := ⟨g, i, none⟩) h.1).trans (h.2.1 i), fun i => (hb.frozen (p := ⟨g, i, none⟩) h.1).trans (h.2.2 i)⟩

theorem Box.alloc {w : World} {g : Nat} {cs : Array Value} (h : Box w g cs) (o : Obj) : Box (w.alloc o) g cs := h.below ((Below.refl _ _).alloc (Nat.le_refl _) o)

theorem Box.setCell {w : World} {g i : Nat} {cs : Array Value} (h : Box w g cs) (hi : i < cs.size) (v : Value) : Box (w.setCell ⟨g, i, none⟩ v) g (cs.setIfInBounds i v) := by
  refine ⟨by rw [World.size_setCell]; exact h.1, fun j => ?_, fun j => by rw [World.frozen?_setCell]; exact h.2.2 j⟩
  by_cases e : i = j
  · subst e
    have hc : w.cell? ⟨g, i, none⟩ = some cs[i] := by rw [h.2.1 i]; simp [hi]
    rw [World.cell?_setCell_same _ _ _ hc]
    simp [hi]
  · rw [World.cell?_setCell_other _ _ _ _ (fun x => e (by injection x)), h.2.1 j, Array.getElem?_setIfInBounds, if_neg e]

theorem Box.setOther {w : World} {g g' i : Nat} {cs : Array Value} (h : Box w g cs) (hg : g' ≠ g) (v : Value) : Box (w.setCell ⟨g', i, none⟩ v) g cs := by
  refine ⟨by rw [World.size_setCell]; exact h.1, fun j => ?_, fun j => by rw [World.frozen?_setCell]; exact h.2.2 j⟩
  rw [World.cell?_setCell_other _ _ _ _ (fun x => hg (by injection x)), h.2.1 j]

theorem Box.drew {w : World} {g : Nat} {cs : Array Value} (h : Box w g cs) : Box w.drew g cs := h.below ((Below.refl _ _).drew)

theorem stepB {w X w2 : World} (hX : Below w.heap.size w X) (hb : Below X.heap.size X w2) : Below w.heap.size w w2 := hX.trans (hb.mono hX.size)

theorem below_drewN (B : Nat) (w : World) (n : Nat) : Below B w (w.drewN n) := ⟨rfl, rfl, rfl, Nat.le_refl _, fun _ _ => rfl⟩

set_option maxHeartbeats 400000 in
theorem gcd_any (a b : Int) (w : World) (ha : 0 ≤ a) (hb : 0 ≤ b) :
    Calls Tryz.prog 56 #[.int .i64 a, .int .i64 b] w fun e w' => e = .returned (.int .i64 (Int.gcd a b)) ∧ Below w.heap.size w w' := by
  go_enter Tryz.func56, Tryz.ntmps56
  go_wp2
  go_loopw [0, 1] (fun x y wr => ∃ p q : Nat, x = .int .i64 p ∧ y = .int .i64 q ∧ Hid (Nat.gcd p q = Int.gcd a b) ∧ Hid (Below w.heap.size w wr)) (fun _ y _ => (intOf y).toNat)
  case atStart =>
    obtain ⟨p, rfl⟩ := Int.eq_ofNat_of_zero_le ha
    obtain ⟨q, rfl⟩ := Int.eq_ofNat_of_zero_le hb
    exact ⟨p, q, rfl, rfl, rfl, Below.refl _ _⟩
  case round =>
    obtain ⟨p, q, rfl, rfl, hg, hbel⟩ := hrel
    by_cases hq : q = 0
    · subst hq
      go_wp2
      go_ret
      refine ⟨?_, hbel⟩
      have := hg.out
      simp at this
      rw [this]
      rfl
    · have hq1 : (1 : Int) ≤ q := by omega
      have hg' : Hid (Nat.gcd q (p % q) = Int.gcd a b) := by
        have := hg.out
        rw [Nat.gcd_comm, ← Nat.gcd_rec, Nat.gcd_comm]
        exact this
      clear hg
      go_wp2
      go_quiet (fail)
      go_wp2
      go_roundw
      case rel => exact ⟨q, p % q, rfl, by first | rfl | simp, hg', Below.trans hbel (below_drewN _ _ _)⟩
      case measure =>
        have := Nat.mod_lt p (Nat.pos_of_ne_zero hq)
        simp [intOf]; omega

/-- A ratio in lowest terms, as the program gives it. -/
def ratV (n d : Int) : Value := .agg #[.int .i64 (n / Int.gcd n d), .int .i64 (d / Int.gcd n d)]

theorem gcd_max_neg (n d : Int) : Int.gcd (max n (-n)) d = Int.gcd n d := by
  rcases Int.le_total 0 n with h | h
  · rw [Int.max_eq_left (by omega)]
  · rw [Int.max_eq_right (by omega), Int.neg_gcd]

theorem gcd_pos_of (n d : Int) (hd : 1 ≤ d) : 1 ≤ (Int.gcd n d : Int) := by
  have : 0 < Int.gcd n d := Int.gcd_pos_of_ne_zero_right _ (by omega)
  omega

theorem bcell {W w1 : World} (hb : Below W.heap.size W w1) : (∀ b o, b < W.heap.size → w1.cell? ⟨b, o, none⟩ = W.cell? ⟨b, o, none⟩) ∧ (∀ b o, b < W.heap.size → w1.frozen? ⟨b, o, none⟩ = W.frozen? ⟨b, o, none⟩) :=
  ⟨fun b o h => hb.cell (p := ⟨b, o, none⟩) h, fun b o h => hb.frozen (p := ⟨b, o, none⟩) h⟩

set_option maxHeartbeats 400000 in
theorem ratio_any (n d : Int) (w : World) (hn : -9223372036854775807 ≤ n) (hn2 : n ≤ 9223372036854775807) (hd : 1 ≤ d) (hd2 : d ≤ 9223372036854775807) :
    Calls Tryz.prog 30 #[.int .i64 n, .int .i64 d] w fun e w' => e = .returned (ratV n d) ∧ Below w.heap.size w w' := by
  have hg := gcd_pos_of n d hd
  have hgd : (Int.gcd n d : Int) ≤ d := Int.le_of_dvd (by omega) (Int.gcd_dvd_right n d)
  have hq1 : Hid (n.tdiv (Int.gcd n d) = n / Int.gcd n d) := Int.tdiv_eq_ediv_of_dvd (Int.gcd_dvd_left n d)
  have HG := Lib.hid (gcd_max_neg n d)
  have hcase : n < 0 ∨ 0 ≤ n := by omega
  rcases hcase with h | h
  · go_enter Tryz.func30, Tryz.ntmps30
    have h' : ¬ -n ≤ n := by omega
    go_wp2_with fail
    refine (gcd_any _ _ _ (by omega) (by omega)).mono ?_
    rintro e w1 ⟨rfl, hb1⟩
    rw [Int.neg_gcd]
    obtain ⟨hc, hf⟩ := bcell hb1
    have hB : Below w.heap.size w w1 := Below.trans (by go_grown) (hb1.mono (by simp))
    generalize hG : Int.gcd n d = g at *
    have HE := Lib.hid hG
    clear hG
    go_wp2
    go_region
    go_wp2
    refine bodyPost_ret (v := .agg #[.int .i64 (n.tdiv g), .int .i64 (d / g)]) (by simp [results, Tryz.results30, go_sem, hc]) rfl ?_
    exact ⟨by unfold ratV; rw [HE.out, ← hq1.out], by go_grown⟩
  · go_enter Tryz.func30, Tryz.ntmps30
    have h' : -n ≤ n := by omega
    go_wp2_with fail
    refine (gcd_any _ _ _ (by omega) (by omega)).mono ?_
    rintro e w1 ⟨rfl, hb1⟩
    obtain ⟨hc, hf⟩ := bcell hb1
    have hB : Below w.heap.size w w1 := Below.trans (by go_grown) (hb1.mono (by simp))
    generalize hG : Int.gcd n d = g at *
    have HE := Lib.hid hG
    clear hG
    go_wp2
    go_region
    go_wp2
    refine bodyPost_ret (v := .agg #[.int .i64 (n / g), .int .i64 (d / g)]) (by simp [results, Tryz.results30, go_sem, hc]) rfl ?_
    exact ⟨by unfold ratV; rw [HE.out], by go_grown⟩
end Go.Proofs.YthhceoendicboaaGreat

/- Contracts of package exact's tests and of handName: whether all numbers lie within two bounds, whether a span is valid, rounding up, the name of a hand. Over Int. -/
namespace Go.Proofs.YthhceoendicboaaGreat
open Go.RowKit

theorem ret_int {k : IntKind} {a b : Int} (h : a = b) : Ending.returned (.int k a) = .returned (.int k b) := by rw [h]
theorem ret_bool {a b : Bool} (h : a = b) : Ending.returned (.bool a) = .returned (.bool b) := by rw [h]

/-- Whether a number lies outside two bounds. -/
def outB (lo hi z : Int) : Bool := !decide (lo ≤ z ∧ z ≤ hi)

set_option maxHeartbeats 400000 in
theorem out_any (z lo hi : Int) (p q : Nat) (w : World) (h1 : w.cell? ⟨p, 0, none⟩ = some (.int .i64 lo)) (h2 : w.cell? ⟨q, 0, none⟩ = some (.int .i64 hi)) :
    Calls Tryz.prog 71 #[.int .i64 z, .pointer (some ⟨p, 0, none⟩), .pointer (some ⟨q, 0, none⟩)] w fun e w' => e = .returned (.bool (outB lo hi z)) ∧ w = w' := by
  by_cases a : z < lo
  · go_enter Tryz.func71, Tryz.ntmps71
    go_wp2
    go_returns
    exact ⟨ret_bool (by unfold outB; rw [decide_eq_false (by omega)]; rfl), rfl⟩
  · by_cases b : hi < z
    · go_enter Tryz.func71, Tryz.ntmps71
      go_wp2
      go_returns
      exact ⟨ret_bool (by unfold outB; rw [decide_eq_false (by omega)]; rfl), rfl⟩
    · go_enter Tryz.func71, Tryz.ntmps71
      go_wp2
      go_returns
      exact ⟨ret_bool (by unfold outB; rw [decide_eq_true (by omega)]; rfl), rfl⟩

theorem push_set {α : Type} (a : Array α) (o o' : α) : (a.push o).setIfInBounds a.size o' = a.push o' := by
  apply Array.ext_getElem?
  intro k
  simp only [Array.getElem?_setIfInBounds, Array.getElem?_push, Array.size_push]
  by_cases h : a.size = k
  · subst h; simp
  · rw [if_neg h, if_neg (fun e => h e.symm), if_neg (fun e => h e.symm)]

theorem alloc_set (w : World) (o o' : Obj) : ({ (w.alloc o) with heap := (w.alloc o).heap.setIfInBounds w.heap.size o' } : World) = w.alloc o' := by
  show ({ w with heap := (w.heap.push o).setIfInBounds w.heap.size o' } : World) = { w with heap := w.heap.push o' }
  rw [push_set]

/-- A store under a key that a new map has not, where the last block is that map. -/
theorem run_map_new {P : Program} {mty kt et : TypeId} {d : TypeDesc} {es : Array MapEntry} {clock : Nat} {key value : Value} (w : World) (hm : P.underlying mty = some (.map kt et)) (hd : P.underlying kt = some d) (hk : MapKept.IsKey d key)
    (h1 : Instr.findNow d key es.toList 0 = some none) :
    (Instr.mapUpdate mty (.map (some w.heap.size)) key value).run P (w.alloc (.map es clock)) = .ok () (w.alloc (.map (es.push { key, val := value, born := clock }) (clock + 1))) := by
  have hb := (MapKept.heap_alloc w (.map es clock)).1
  simp [Instr.mapUpdate, run_underlying hm, MapKept.run_getObj_map hb, MapKept.run_checkKey hd hk, MapKept.run_findKey hd h1, MapKept.run_setObj_map _ hb, Result.andThen]
  exact alloc_set _ _ _

/-- A look-up of a key that the map has. -/
theorem run_map_hit {P : Program} {mty kt et : TypeId} {d : TypeDesc} {es : Array MapEntry} {clock n i : Nat} {key value : Value} (w : World) (hm : P.underlying mty = some (.map kt et)) (hd : P.underlying kt = some d) (hk : MapKept.IsKey d key)
    (hb : w.heap[n]? = some (.map es clock)) (h1 : Instr.findNow d key es.toList 0 = some (some (i, value))) :
    (Instr.lookup mty (.map (some n)) key false).run P w = .ok value w := by
  simp [Instr.lookup, run_underlying hm, MapKept.run_getObj_map hb, MapKept.run_checkKey hd hk, MapKept.run_findKey hd h1, Result.andThen]

def handN (b : Bool) : Int := if b then 2 else 1

/-- n / d, rounded up. -/
def upTo (n d : Int) : Int := (n + d - 1) / d

theorem upTo_of_pos {n d : Int} (hd : 1 ≤ d) (h : 0 < n % d) : n / d + 1 = upTo n d := by
  have := Int.emod_lt_of_pos n (b := d) (by omega)
  have e := Int.mul_ediv_add_emod n d
  have h0 : (n % d - 1) / d = 0 := Int.ediv_eq_zero_of_lt (by omega) (by omega)
  unfold upTo
  rw [show n + d - 1 = (n % d - 1) + (n / d + 1) * d by rw [Int.add_mul, Int.mul_comm (n / d)]; omega, Int.add_mul_ediv_right _ _ (by omega), h0]
  omega

theorem upTo_of_zero {n d : Int} (hd : 1 ≤ d) (h : n % d = 0) : n / d = upTo n d := by
  have e := Int.mul_ediv_add_emod n d
  have h0 : (d - 1) / d = 0 := Int.ediv_eq_zero_of_lt (by omega) (by omega)
  unfold upTo
  rw [show n + d - 1 = (d - 1) + (n / d) * d by rw [Int.mul_comm (n / d)]; omega, Int.add_mul_ediv_right _ _ (by omega), h0]
  omega

theorem roundUp_any (n d : Int) (w : World) (hn : 1 ≤ n) (hn2 : n ≤ 4611686018427387904) (hd : 1 ≤ d) (hd2 : d ≤ 9223372036854775807) :
    Calls Tryz.prog 97 #[.int .i64 n, .int .i64 d] w fun e w' => e = .returned (.int .i64 (upTo n d)) ∧ w' = w := by
  have hm := Int.emod_nonneg n (b := d) (by omega)
  have hm2 := Int.emod_lt_of_pos n (b := d) (by omega)
  have hq : 0 ≤ n / d := Int.ediv_nonneg (by omega) (by omega)
  have hq2 : n / d ≤ n := Int.ediv_le_self _ (by omega)
  by_cases h : 0 < n % d
  · go_enter Tryz.func97, Tryz.ntmps97
    go_wp2
    go_returns
    refine ⟨ret_int ?_, rfl⟩
    exact upTo_of_pos hd h
  · go_enter Tryz.func97, Tryz.ntmps97
    go_wp2
    go_returns
    refine ⟨ret_int ?_, rfl⟩
    exact upTo_of_zero hd (by omega)

def spanV (lo hi : Int) : Value := .agg #[.int .i64 lo, .int .i64 hi]
def vspan (lo hi a b : Int) : Bool := decide (a ≤ lo ∧ lo ≤ hi ∧ hi ≤ b)

set_option maxHeartbeats 400000 in
theorem validSpan_any (lo hi a b : Int) (w : World) :
    Calls Tryz.prog 77 #[.agg #[.int .i64 lo, .int .i64 hi], .int .i64 a, .int .i64 b] w fun e w' => e = .returned (.bool (vspan lo hi a b)) ∧ Below w.heap.size w w' := by
  by_cases h1 : a ≤ lo
  · by_cases h2 : lo ≤ hi
    · by_cases h3 : hi ≤ b
      · go_enter Tryz.func77, Tryz.ntmps77
        go_wp2
        go_returns
        exact ⟨by unfold vspan; rw [decide_eq_true (by omega)]; rfl, by go_grown⟩
      · go_enter Tryz.func77, Tryz.ntmps77
        go_wp2
        go_returns
        exact ⟨by unfold vspan; rw [decide_eq_false (by omega)]; rfl, by go_grown⟩
    · go_enter Tryz.func77, Tryz.ntmps77
      go_wp2
      go_returns
      exact ⟨by unfold vspan; rw [decide_eq_false (by omega)]; rfl, by go_grown⟩
  · go_enter Tryz.func77, Tryz.ntmps77
    go_wp2
    go_returns
    exact ⟨by unfold vspan; rw [decide_eq_false (by omega)]; rfl, by go_grown⟩
end Go.Proofs.YthhceoendicboaaGreat

/- A call that is known: the name of a hand, a number that a bool decides. -/
namespace Go.Proofs.YthhceoendicboaaGreat.Cx
set_option linter.unusedSimpArgs false
set_option linter.unusedVariables false
open Go Go.RowKit

/-- A function of a bool that yields one of two integers, in every world. -/
structure Known2 (P : Program) (f : Nat) (x y : Int) : Prop where
  fn : ∃ fn, P.funcs[f]? = some fn ∧ fn.body.isSome = true
  run : ∀ b w, Calls P f #[.bool b] w fun e w' => e = .returned (.int .i64 (if b then x else y)) ∧ Below w.heap.size w w'

noncomputable def memo2 (h : Nat) (x y : Int) (m : Memo) : Memo := fun f args s =>
  match args with
  | [.bool e] => bif Nat.beq f h then (match s.decide e with | some (t, s') => some (.int .i64 (.c (bif t then x else y)), s', [], []) | none => none) else m f args s
  | _ => m f args s

theorem memo2_ok {P : Program} {ρ : Env} {h : Nat} {x y : Int} {m : Memo} (hh : Known2 P h x y) (hm : MemoOk P (ctxOf P m) ρ) : MemoOk P (ctxOf P (memo2 h x y m)) ρ := by
  have old : ∀ f args s c s' R W, m f args s = some (c, s', R, W) → CallOk P (ctxOf P (memo2 h x y m)) ρ f args s c s' R W := fun f args s c s' R W h0 => by
    have k := hm f args s c s' R W h0
    exact ⟨k.fn, k.frm, k.lt, k.run⟩
  intro f args s c s' R W hq
  have hq' : memo2 h x y m f args s = some (c, s', R, W) := hq
  unfold memo2 at hq'
  split at hq'
  · rename_i e
    cases hf : Nat.beq f h with
    | false => rw [hf, cond_false] at hq'; exact old _ _ _ _ _ _ _ hq'
    | true =>
      rw [hf, cond_true] at hq'
      obtain rfl : f = h := Nat.eq_of_beq_eq_true hf
      split at hq'
      · rename_i t s1 hd
        cases hq'
        obtain ⟨h1, h2, h3, h4⟩ := decide_parts (ρ := ρ) hd
        refine ⟨hh.fn, Frm.same _ h1 h2 h3, ⟨fun b hb => by simp at hb, fun b hb => by simp at hb⟩, ?_⟩
        intro n σ cur w args' hp hargs hH hA hN
        have ht := h4 hp
        obtain ⟨v, e0, hv⟩ : ∃ v, args' = #[v] ∧ VR ρ σ (.bool e) v := by
          obtain ⟨l⟩ := args'
          cases hargs with
          | cons hv hr => cases hr; exact ⟨_, rfl, hv⟩
        subst e0
        obtain rfl := hv.bool_inv
        rw [ht]
        have := (callsIn_wide (n := n)).2 (hh.run t w)
        refine CallsIn.mono (F := fc none) this ?_
        rintro e w' ⟨rfl, hB⟩
        refine ⟨_, rfl, σ, (by rw [h1]; exact Ext.refl _ _ _), (by cases t; exact .int .i64 (.c y); exact .int .i64 (.c x)), ?_, .below hB, (by rw [h1]; exact Fresh.none _ _ _ _ _ _)⟩
        rw [h1, upd_none]
        exact hH.below hB
      · cases hq'
  · exact old _ _ _ _ _ _ _ hq'

end Go.Proofs.YthhceoendicboaaGreat.Cx

/- A call that is known: a ratio in lowest terms. -/
namespace Go.Proofs.YthhceoendicboaaGreat.Cx
set_option linter.unusedSimpArgs false
set_option linter.unusedVariables false
open Go Go.RowKit

/-- A function of two integers that yields their ratio in lowest terms, where the second is above 0. -/
structure KnownR (P : Program) (f : Nat) : Prop where
  fn : ∃ fn, P.funcs[f]? = some fn ∧ fn.body.isSome = true
  run : ∀ n d w, -9223372036854775807 ≤ n → n ≤ 9223372036854775807 → 1 ≤ d → d ≤ 9223372036854775807 → Calls P f #[.int .i64 n, .int .i64 d] w fun e w' => e = .returned (.agg #[.int .i64 (n / Int.gcd n d), .int .i64 (d / Int.gcd n d)]) ∧ Below w.heap.size w w'

/-- All of these tests hold. -/
noncomputable def askAll (s : St) : List BE → Option St
  | [] => some s
  | b :: l => match s.decide b with | some (true, s) => askAll s l | _ => none

theorem askAll_parts {ρ : Env} : ∀ {l : List BE} {s s' : St}, askAll s l = some s' → s'.next = s.next ∧ s'.heap = s.heap ∧ (∃ m, s'.pc = m ++ s.pc) ∧ ((∀ p ∈ s'.pc, p.holds ρ) → ∀ b ∈ l, b.den ρ = true)
  | [], s, s', h => by cases h; exact ⟨rfl, rfl, ⟨[], rfl⟩, fun _ b hb => by cases hb⟩
  | b :: l, s, s', h => by
    unfold askAll at h
    split at h
    · rename_i s1 hd
      obtain ⟨h1, h2, ⟨m, h3⟩, h4⟩ := decide_parts (ρ := ρ) hd
      obtain ⟨g1, g2, ⟨m', g3⟩, g4⟩ := askAll_parts (ρ := ρ) h
      refine ⟨g1.trans h1, g2.trans h2, ⟨m' ++ m, by rw [g3, h3, List.append_assoc]⟩, fun hp x hx => ?_⟩
      rcases List.mem_cons.1 hx with rfl | hx
      · exact h4 fun p hp' => hp p (by rw [g3]; simp [hp'])
      · exact g4 hp x hx
    · cases h

def ratC (n d : IE) : CV := .agg [.int .i64 (.mk .quo .i64 n (.mk .gcd .i64 n d)), .int .i64 (.mk .quo .i64 d (.mk .gcd .i64 n d))]

noncomputable def memoR (r : Nat) (m : Memo) : Memo := fun f args s =>
  match args with
  | [.int .i64 n, .int .i64 d] => bif Nat.beq f r then
      (match askAll s [.mk .leq (.c (-9223372036854775807)) n, .mk .leq n (.c 9223372036854775807), .mk .leq (.c 1) d, .mk .leq d (.c 9223372036854775807)] with | some s' => some (ratC n d, s', [], []) | none => none)
    else m f args s
  | _ => m f args s

theorem quo_gcd {n d : Int} (x : Int) (hx : (Int.gcd n d : Int) ∣ x) (h1 : -9223372036854775807 ≤ x) (h2 : x ≤ 9223372036854775807) (hd : 1 ≤ d) : IntKind.i64.wrap (x.tdiv (Int.gcd n d)) = x / Int.gcd n d := by
  have hg : 0 < Int.gcd n d := Int.gcd_pos_of_ne_zero_right n (by omega)
  have e : x.tdiv (Int.gcd n d) = x / (Int.gcd n d : Int) := by
    obtain ⟨k, rfl⟩ := hx
    rw [Int.mul_tdiv_cancel_left _ (by omega), Int.mul_ediv_cancel_left _ (by omega)]
  rw [e]
  obtain ⟨k, hk⟩ := hx
  have e2 : x / (Int.gcd n d : Int) = k := by rw [hk, Int.mul_ediv_cancel_left _ (by omega)]
  rw [e2]
  have hg' : 1 ≤ (Int.gcd n d : Int) := by omega
  generalize (Int.gcd n d : Int) = g at *
  apply wrap_id
  · rcases Int.le_total 0 k with q | q
    · omega
    · have := Int.mul_le_mul_of_nonpos_right hg' q
      rw [Int.one_mul, ← hk] at this
      omega
  · rcases Int.le_total 0 k with q | q
    · have := Int.mul_le_mul_of_nonneg_right hg' q
      rw [Int.one_mul, ← hk] at this
      omega
    · omega

theorem memoR_ok {P : Program} {ρ : Env} {r : Nat} {m : Memo} (hh : KnownR P r) (hm : MemoOk P (ctxOf P m) ρ) : MemoOk P (ctxOf P (memoR r m)) ρ := by
  have old : ∀ f args s c s' R W, m f args s = some (c, s', R, W) → CallOk P (ctxOf P (memoR r m)) ρ f args s c s' R W := fun f args s c s' R W h0 => by
    have k := hm f args s c s' R W h0
    exact ⟨k.fn, k.frm, k.lt, k.run⟩
  intro f args s c s' R W hq
  have hq' : memoR r m f args s = some (c, s', R, W) := hq
  unfold memoR at hq'
  split at hq'
  · rename_i n d
    cases hf : Nat.beq f r with
    | false => rw [hf, cond_false] at hq'; exact old _ _ _ _ _ _ _ hq'
    | true =>
      rw [hf, cond_true] at hq'
      obtain rfl : f = r := Nat.eq_of_beq_eq_true hf
      split at hq'
      · rename_i s1 hd
        cases hq'
        obtain ⟨h1, h2, h3, h4⟩ := askAll_parts (ρ := ρ) hd
        refine ⟨hh.fn, Frm.same _ h1 h2 h3, ⟨fun b hb => by simp at hb, fun b hb => by simp at hb⟩, ?_⟩
        intro k σ cur w args' hp hargs hH hA hN
        have ht := h4 hp
        obtain ⟨u, v, e0, hu, hv⟩ : ∃ u v, args' = #[u, v] ∧ VR ρ σ (.int .i64 n) u ∧ VR ρ σ (.int .i64 d) v := by
          obtain ⟨l⟩ := args'
          cases hargs with
          | cons hu hr => cases hr with
            | cons hv hr => cases hr; exact ⟨_, _, rfl, hu, hv⟩
        subst e0
        obtain rfl := hu.int_inv
        obtain rfl := hv.int_inv
        have t1 := ht _ (List.mem_cons_self ..)
        have t2 := ht _ (List.mem_cons_of_mem _ (List.mem_cons_self ..))
        have t3 := ht _ (List.mem_cons_of_mem _ (List.mem_cons_of_mem _ (List.mem_cons_self ..)))
        have t4 := ht _ (List.mem_cons_of_mem _ (List.mem_cons_of_mem _ (List.mem_cons_of_mem _ (List.mem_cons_self ..))))
        rw [BE.den_mk] at t1 t2 t3 t4
        have t1 : -9223372036854775807 ≤ n.den ρ := of_decide_eq_true t1
        have t2 : n.den ρ ≤ 9223372036854775807 := of_decide_eq_true t2
        have t3 : 1 ≤ d.den ρ := of_decide_eq_true t3
        have t4 : d.den ρ ≤ 9223372036854775807 := of_decide_eq_true t4
        have hrun := (callsIn_wide (n := k)).2 (hh.run (n.den ρ) (d.den ρ) w t1 t2 t3 t4)
        refine CallsIn.mono (F := fc none) hrun ?_
        rintro e w' ⟨rfl, hB⟩
        refine ⟨_, rfl, σ, (by rw [h1]; exact Ext.refl _ _ _), ?_, ?_, .below hB, (by rw [h1]; exact Fresh.none _ _ _ _ _ _)⟩
        · have q1 := VR.int (ρ := ρ) (σ := σ) .i64 (.mk .quo .i64 n (.mk .gcd .i64 n d))
          have q2 := VR.int (ρ := ρ) (σ := σ) .i64 (.mk .quo .i64 d (.mk .gcd .i64 n d))
          rw [IE.den_mk, IE.den_mk] at q1 q2
          simp only [Ar.run] at q1 q2
          rw [quo_gcd _ (Int.gcd_dvd_left ..) t1 t2 t3] at q1
          rw [quo_gcd _ (Int.gcd_dvd_right ..) (by omega) t4 t3] at q2
          exact .agg (.cons q1 (.cons q2 .nil))
        · rw [h1, upd_none]
          exact hH.below hB
      · cases hq'
  · exact old _ _ _ _ _ _ _ hq'

theorem ratio_known : KnownR Tryz.prog 30 :=
  ⟨⟨_, Tryz.func30, rfl⟩, fun n d w h1 h2 h3 h4 => ratio_any n d w h1 h2 h3 h4⟩

end Go.Proofs.YthhceoendicboaaGreat.Cx

/- acme/exact.Ratio as a known call with one result: a synthetic automaton over its contract. -/
namespace Go.Proofs.YthhceoendicboaaGreat.Cx
set_option linter.unusedVariables false
set_option linter.unusedSimpArgs false
set_option maxRecDepth 100000
open Go Go.Proofs Go.RowKit

abbrev lrtN := Empty
abbrev lrtR := Int × Int

def lrtOk (a0 a1 : Int) : Bool := decide ((-9223372036854775807 ≤ a0 ∧ a0 ≤ 9223372036854775807) ∧ 1 ≤ a1 ∧ a1 ≤ 9223372036854775807)
noncomputable def lrtD0 (a0 a1 : Int) : DD (Lf lrtN lrtR) := .must (lrtOk a0 a1) (.leaf (.done (a0 / (Int.gcd a0 a1 : Int), a1 / (Int.gcd a0 a1 : Int)) []))

noncomputable def lrtA (a0 : Int) (a1 : Int) : AF lrtN lrtR where
  code := .ret
  base := 0
  nt := 0
  m := 0
  un := []
  W := []
  h0 := []
  args := [.int .i64 (.x a0), .int .i64 (.x a1)]
  res := []
  path := fun a => a.elim
  pd := fun a => a.elim
  D0 := lrtD0 a0 a1
  D := fun a => a.elim
  rc := (fun v => .agg [.int .i64 (.x (Prod.fst v)), .int .i64 (.x (Prod.snd v))])
  rh := (fun v => [])
  rn := (fun v => 0)
  rx := (fun v => [])
  rgo := (fun _ => none)

theorem lrt_val {a0 a1 : Int} (h : (-9223372036854775807 ≤ a0 ∧ a0 ≤ 9223372036854775807) ∧ 1 ≤ a1 ∧ a1 ≤ 9223372036854775807) : AF.fin (lrtA a0 a1) = true ∧ AF.val (lrtA a0 a1) = (a0 / (Int.gcd a0 a1 : Int), a1 / (Int.gcd a0 a1 : Int)) := by
  have hD : (lrtA a0 a1).D0.eval = some (.done (a0 / (Int.gcd a0 a1 : Int), a1 / (Int.gcd a0 a1 : Int)) []) := by
    show (lrtD0 a0 a1).eval = _
    unfold lrtD0
    rw [show lrtOk a0 a1 = true from decide_eq_true h]
    rfl
  have hr : (lrtA a0 a1).run 0 = some (a0 / (Int.gcd a0 a1 : Int), a1 / (Int.gcd a0 a1 : Int)) := by
    simp only [AF.run, hD]
  exact AF.val_of (AF.mono_none fun _ => rfl) hr

abbrev lrtP : List AP := [.int .i64, .int .i64]
noncomputable def lrtF (v : AV) : AF lrtN lrtR := lrtA (v.i.getD 0 0) (v.i.getD 1 0)

theorem lrt_ctr {ρ : Env} (a0 a1 : Int) {n : Nat} {r : lrtR} (h : (lrtA a0 a1).run n = some r) : Ctr Tryz.prog ρ 30 (lrtA a0 a1).args .nil 0 [] ((lrtA a0 a1).rc r) .nil 0 := by
  have hD : (lrtA a0 a1).D0 = lrtD0 a0 a1 := rfl
  cases hk : lrtOk a0 a1 with
  | false => simp [AF.run, hD, lrtD0, hk, DD.eval] at h
  | true =>
    simp [AF.run, hD, lrtD0, hk, DD.eval] at h
    subst h
    obtain ⟨⟨q1, q2⟩, q3, q4⟩ := of_decide_eq_true hk
    refine ⟨ratio_known.fn, ?_⟩
    intro m σ w args' hargs hH hN
    obtain ⟨u, v, e0, hu, hv⟩ : ∃ u v, args' = #[u, v] ∧ VR ρ σ (.int .i64 (.x a0)) u ∧ VR ρ σ (.int .i64 (.x a1)) v := by
      obtain ⟨l⟩ := args'
      cases hargs with
      | cons hu hr => cases hr with
        | cons hv hr => cases hr; exact ⟨_, _, rfl, hu, hv⟩
    subst e0
    obtain rfl := hu.int_inv
    obtain rfl := hv.int_inv
    have hrun := (callsIn_wide (n := m)).2 (ratio_known.run a0 a1 w q1 q2 q3 q4)
    refine CallsIn.mono (F := fc none) hrun ?_
    rintro e w' ⟨rfl, hB⟩
    refine ⟨_, rfl, σ, Ext.refl _ _ _, .agg (.cons (.int .i64 (.x _)) (.cons (.int .i64 (.x _)) .nil)), ?_, .below hB, Fresh.none _ _ _ _ _ _⟩
    show HR ρ σ (upd (curOf .nil 0) 0 0 .nil []) w'
    rw [upd_none]
    exact hH.below hB

theorem lrtknown {ρ : Env} : KnownA Tryz.prog ρ 30 lrtP lrtF where
  fn := ratio_known.fn
  args := fun v => rfl
  plain := fun v r => rfl
  ctr := fun v n r h => lrt_ctr _ _ h
end Go.Proofs.YthhceoendicboaaGreat.Cx

/- acme/wires.Width as an automaton. Made by tools/cxauto.py. -/
namespace Go.Proofs.YthhceoendicboaaGreat.Cx
set_option linter.unusedVariables false
set_option linter.unusedSimpArgs false
set_option maxRecDepth 100000
open Go Go.Proofs Go.RowKit

noncomputable abbrev wwiCode : Code := funcCode Tryz.f9


abbrev wwiN := Empty

abbrev wwiR := Int × Int × Int

noncomputable def wwiD0 (a0 : Nat) (a1 : Nat → Int) (a2 : Nat → Int) (a3 : Int) (a4 : Int) (a5 : Int) (a6 : Int) (a7 : Int) (a8 : Int) (a9 : Int) (a10 : Int) (a11 : Int) (a12 : Int) (a13 : Int) (a14 : Int) : DD (Lf wwiN wwiR) :=
 .must (decide (0 + a0 ≤ a0))
   (.must (ShapeOk [some IntKind.i64, some IntKind.i64] (tabOf a0 fun i => [CV.int IntKind.i64 (IE.x (a1 (0 + i))), CV.int IntKind.i64 (IE.x (a2 (0 + i)))]) fun i => [CV.int IntKind.i64 (IE.x (a1 (0 + i))), CV.int IntKind.i64 (IE.x (a2 (0 + i)))])
   (.must (AF.fin (wchA a0 (fun i => a1 (0 + i)) (fun i => a2 (0 + i)) a3 a4 a5 a6 a7 a8 1 (fun i => List.getD [a9] i 0) (fun i => List.getD [a10] i 0) (fun i => List.getD [a11] i 0) (fun i => List.getD [a12] i 0) (fun i => List.getD [a13] i 0) fun i => List.getD [a14] i 0))
   (.ask (Cm.run Cm.neq (AF.val (wchA a0 (fun i => a1 (0 + i)) (fun i => a2 (0 + i)) a3 a4 a5 a6 a7 a8 1 (fun i => List.getD [a9] i 0) (fun i => List.getD [a10] i 0) (fun i => List.getD [a11] i 0) (fun i => List.getD [a12] i 0) (fun i => List.getD [a13] i 0) fun i => List.getD [a14] i 0)) 0)
   (.leaf (.done (0, 0, AF.val (wchA a0 (fun i => a1 (0 + i)) (fun i => a2 (0 + i)) a3 a4 a5 a6 a7 a8 1 (fun i => List.getD [a9] i 0) (fun i => List.getD [a10] i 0) (fun i => List.getD [a11] i 0) (fun i => List.getD [a12] i 0) (fun i => List.getD [a13] i 0) fun i => List.getD [a14] i 0)) []))
   (.must (decide (0 + a0 ≤ a0))
   (.must (ShapeOk [some IntKind.i64, some IntKind.i64] (tabOf a0 fun i => [CV.int IntKind.i64 (IE.x (a1 (0 + i))), CV.int IntKind.i64 (IE.x (a2 (0 + i)))]) fun i => [CV.int IntKind.i64 (IE.x (a1 (0 + i))), CV.int IntKind.i64 (IE.x (a2 (0 + i)))])
   (.must (AF.fin (wspA a0 (fun i => a1 (0 + i)) (fun i => a2 (0 + i)) a3 a4 a5 a6 a7 a8 a9 a10 a11 a12 a13 a14))
   (.must (AF.fin (lrtA (AF.val (wspA a0 (fun i => a1 (0 + i)) (fun i => a2 (0 + i)) a3 a4 a5 a6 a7 a8 a9 a10 a11 a12 a13 a14)) 4000))
   (.leaf (.done (Prod.fst (AF.val (lrtA (AF.val (wspA a0 (fun i => a1 (0 + i)) (fun i => a2 (0 + i)) a3 a4 a5 a6 a7 a8 a9 a10 a11 a12 a13 a14)) 4000)), Prod.snd (AF.val (lrtA (AF.val (wspA a0 (fun i => a1 (0 + i)) (fun i => a2 (0 + i)) a3 a4 a5 a6 a7 a8 a9 a10 a11 a12 a13 a14)) 4000)), 0) [])))))))))

noncomputable def wwiD (a0 : Nat) (a1 : Nat → Int) (a2 : Nat → Int) (a3 : Int) (a4 : Int) (a5 : Int) (a6 : Int) (a7 : Int) (a8 : Int) (a9 : Int) (a10 : Int) (a11 : Int) (a12 : Int) (a13 : Int) (a14 : Int) : wwiN → DD (Lf wwiN wwiR) := fun a => nomatch a

noncomputable def wwiA (a0 : Nat) (a1 : Nat → Int) (a2 : Nat → Int) (a3 : Int) (a4 : Int) (a5 : Int) (a6 : Int) (a7 : Int) (a8 : Int) (a9 : Int) (a10 : Int) (a11 : Int) (a12 : Int) (a13 : Int) (a14 : Int) : AF wwiN wwiR where
  code := wwiCode
  base := 1
  nt := 19
  m := 400
  un := []
  W := []
  h0 := [(0, ⟨.arg a0 2 (fun i => [.int .i64 (.x (a1 i)), .int .i64 (.x (a2 i))]) (fun _ => ⟨rfl, rfl⟩), 2, true, none⟩)]
  args := [.agg [.sla 0 2 0 a0, .int .i64 (.x a3), .int .i64 (.x a4), .int .i64 (.x a5), .int .i64 (.x a6), .int .i64 (.x a7), .int .i64 (.x a8)], .agg [.int .i64 (.x a9), .int .i64 (.x a10), .int .i64 (.x a11), .int .i64 (.x a12), .int .i64 (.x a13), .int .i64 (.x a14)]]
  res := (Tryz.f9).results.toList
  path := fun a => nomatch a
  pd := fun a => nomatch a
  D0 := wwiD0 a0 a1 a2 a3 a4 a5 a6 a7 a8 a9 a10 a11 a12 a13 a14
  D := wwiD a0 a1 a2 a3 a4 a5 a6 a7 a8 a9 a10 a11 a12 a13 a14
  rc := (fun v => .tup [.agg [.int .i64 (.x v.1), .int .i64 (.x v.2.1)], .int .i64 (.x v.2.2)])
  rh := (fun v => [])
  rn := (fun v => 1)
  rx := (fun v => [])
  rgo := (fun _ => none)


theorem wwistart (a0 : Nat) (a1 : Nat → Int) (a2 : Nat → Int) (a3 : Int) (a4 : Int) (a5 : Int) (a6 : Int) (a7 : Int) (a8 : Int) (a9 : Int) (a10 : Int) (a11 : Int) (a12 : Int) (a13 : Int) (a14 : Int) : AF.edgeOk (wwiA a0 a1 a2 a3 a4 a5 a6 a7 a8 a9 a10 a11 a12 a13 a14) (ctxOf Tryz.prog memo0) (wwiD0 a0 a1 a2 a3 a4 a5 a6 a7 a8 a9 a10 a11 a12 a13 a14) (AF.run0 (wwiA a0 a1 a2 a3 a4 a5 a6 a7 a8 a9 a10 a11 a12 a13 a14) (ctxOf Tryz.prog (memoS 31 wspP wspF wspW wspH 1 (memoS 7 wchP wchF wchW wchH 2 (memoA 30 lrtP lrtF memo0))))) := by unfold AF.edgeOk; kernel_rfl

theorem wwiok (a0 : Nat) (a1 : Nat → Int) (a2 : Nat → Int) (a3 : Int) (a4 : Int) (a5 : Int) (a6 : Int) (a7 : Int) (a8 : Int) (a9 : Int) (a10 : Int) (a11 : Int) (a12 : Int) (a13 : Int) (a14 : Int) : (wwiA a0 a1 a2 a3 a4 a5 a6 a7 a8 a9 a10 a11 a12 a13 a14).Ok Tryz.prog (ctxOf Tryz.prog (memoS 31 wspP wspF wspW wspH 1 (memoS 7 wchP wchF wchW wchH 2 (memoA 30 lrtP lrtF memo0)))) where
  regs := by kernel_rfl
  h0 := by kernel_rfl
  start := wwistart a0 a1 a2 a3 a4 a5 a6 a7 a8 a9 a10 a11 a12 a13 a14
  node := fun a _ => nomatch a
  pd := fun a => nomatch a
  le := fun a => nomatch a
  rd := fun v => ⟨⟨fa_nil, fa_nil, fa_nil, rfl⟩, rfl⟩
  wb := rfl


theorem wwihR {ρ : Env} (a0 : Nat) (a1 : Nat → Int) (a2 : Nat → Int) (a3 : Int) (a4 : Int) (a5 : Int) (a6 : Int) (a7 : Int) (a8 : Int) (a9 : Int) (a10 : Int) (a11 : Int) (a12 : Int) (a13 : Int) (a14 : Int) (hM : MemoOk Tryz.prog (ctxOf Tryz.prog (memoS 31 wspP wspF wspW wspH 1 (memoS 7 wchP wchF wchW wchH 2 (memoA 30 lrtP lrtF memo0)))) ρ) : ∀ X a q n D, FxOk ρ X → X.base = (wwiA a0 a1 a2 a3 a4 a5 a6 a7 a8 a9 a10 a11 a12 a13 a14).base → X.nt = (wwiA a0 a1 a2 a3 a4 a5 a6 a7 a8 a9 a10 a11 a12 a13 a14).nt → X.W = (wwiA a0 a1 a2 a3 a4 a5 a6 a7 a8 a9 a10 a11 a12 a13 a14).W → (wwiA a0 a1 a2 a3 a4 a5 a6 a7 a8 a9 a10 a11 a12 a13 a14).rgo a = some q → q n = some D → (wwiA a0 a1 a2 a3 a4 a5 a6 a7 a8 a9 a10 a11 a12 a13 a14).RangeOk Tryz.prog ρ X a D := AF.noRange rfl

theorem wwictr {ρ : Env} (a0 : Nat) (a1 : Nat → Int) (a2 : Nat → Int) (a3 : Int) (a4 : Int) (a5 : Int) (a6 : Int) (a7 : Int) (a8 : Int) (a9 : Int) (a10 : Int) (a11 : Int) (a12 : Int) (a13 : Int) (a14 : Int) {n : Nat} {v : wwiR} (hM : MemoOk Tryz.prog (ctxOf Tryz.prog (memoS 31 wspP wspF wspW wspH 1 (memoS 7 wchP wchF wchW wchH 2 (memoA 30 lrtP lrtF memo0)))) ρ) (hv : (wwiA a0 a1 a2 a3 a4 a5 a6 a7 a8 a9 a10 a11 a12 a13 a14).run n = some v) :
    Ctr Tryz.prog ρ 9 (wwiA a0 a1 a2 a3 a4 a5 a6 a7 a8 a9 a10 a11 a12 a13 a14).args (wwiA a0 a1 a2 a3 a4 a5 a6 a7 a8 a9 a10 a11 a12 a13 a14).H0 (wwiA a0 a1 a2 a3 a4 a5 a6 a7 a8 a9 a10 a11 a12 a13 a14).base (wwiA a0 a1 a2 a3 a4 a5 a6 a7 a8 a9 a10 a11 a12 a13 a14).W ((wwiA a0 a1 a2 a3 a4 a5 a6 a7 a8 a9 a10 a11 a12 a13 a14).rc v) (putH (wwiA a0 a1 a2 a3 a4 a5 a6 a7 a8 a9 a10 a11 a12 a13 a14).H0 ((wwiA a0 a1 a2 a3 a4 a5 a6 a7 a8 a9 a10 a11 a12 a13 a14).rh v ++ (wwiA a0 a1 a2 a3 a4 a5 a6 a7 a8 a9 a10 a11 a12 a13 a14).rx v)) ((wwiA a0 a1 a2 a3 a4 a5 a6 a7 a8 a9 a10 a11 a12 a13 a14).rn v) :=
  AF.ctr try_ok hM (wwiok a0 a1 a2 a3 a4 a5 a6 a7 a8 a9 a10 a11 a12 a13 a14) (fn := Tryz.f9) Tryz.func9 rfl rfl (Nat.le_of_ble_eq_true rfl) rfl (wwihR a0 a1 a2 a3 a4 a5 a6 a7 a8 a9 a10 a11 a12 a13 a14 hM) hv


theorem wwimem {ρ : Env} : MemoOk Tryz.prog (ctxOf Tryz.prog (memoS 31 wspP wspF wspW wspH 1 (memoS 7 wchP wchF wchW wchH 2 (memoA 30 lrtP lrtF memo0)))) ρ := (memoS_ok (wspknown wspmem) (memoS_ok (wchknown wchmem) (memoA_ok lrtknown memo0_ok)))


abbrev wwiP : List AQ := [.agg [.rows [some .i64, some .i64], .int .i64, .int .i64, .int .i64, .int .i64, .int .i64, .int .i64], .agg [.int .i64, .int .i64, .int .i64, .int .i64, .int .i64, .int .i64]]

noncomputable def wwiF (v : AW) : AF wwiN wwiR := wwiA (v.t.getD 0 .none).n ((v.t.getD 0 .none).c 0) ((v.t.getD 0 .none).c 1) (v.i.getD 0 0) (v.i.getD 1 0) (v.i.getD 2 0) (v.i.getD 3 0) (v.i.getD 4 0) (v.i.getD 5 0) (v.i.getD 6 0) (v.i.getD 7 0) (v.i.getD 8 0) (v.i.getD 9 0) (v.i.getD 10 0) (v.i.getD 11 0)

noncomputable def wwiW : wwiR → CV := fun v => .tup [.agg [.int .i64 (.x v.1), .int .i64 (.x v.2.1)], .int .i64 (.x v.2.2)]
noncomputable def wwiH : wwiR → List (Nat × Blk) := fun v => []



instance : Inhabited wwiR := ⟨(0, 0, 0)⟩
theorem wwiknown {ρ : Env} (hM : MemoOk Tryz.prog (ctxOf Tryz.prog (memoS 31 wspP wspF wspW wspH 1 (memoS 7 wchP wchF wchW wchH 2 (memoA 30 lrtP lrtF memo0)))) ρ) : KnownS Tryz.prog ρ 9 wwiP wwiF wwiW wwiH 1 where
  fn := ⟨Tryz.f9, Tryz.func9, rfl⟩
  le := Nat.le_of_ble_eq_true rfl
  full := fun r => rfl
  rg := fun r => rfl
  hg := fun r => fa_nil
  ctr := fun v n r h => wwictr (v.t.getD 0 .none).n ((v.t.getD 0 .none).c 0) ((v.t.getD 0 .none).c 1) (v.i.getD 0 0) (v.i.getD 1 0) (v.i.getD 2 0) (v.i.getD 3 0) (v.i.getD 4 0) (v.i.getD 5 0) (v.i.getD 6 0) (v.i.getD 7 0) (v.i.getD 8 0) (v.i.getD 9 0) (v.i.getD 10 0) (v.i.getD 11 0) hM h

end Go.Proofs.YthhceoendicboaaGreat.Cx

/- acme/acmeref05.Of as an automaton. Made by tools/cxauto.py. -/
namespace Go.Proofs.YthhceoendicboaaGreat.Cx
set_option linter.unusedVariables false
set_option linter.unusedSimpArgs false
set_option maxRecDepth 100000
open Go Go.Proofs Go.RowKit

noncomputable abbrev rofCode : Code := funcCode Tryz.f13


abbrev rofN := Empty

abbrev rofR := Bool

noncomputable def rofD0 (a0 : Nat) (a1 : Nat → Int) (a2 : Nat → Int) (a3 : Int) (a4 : Int) (a5 : Int) (a6 : Int) (a7 : Int) (a8 : Int) (a9 : Int) (a10 : Int) (a11 : Int) (a12 : Int) (a13 : Int) (a14 : Int) (a15 : Int) (a16 : Int) (a17 : Int) (a18 : Int) (a19 : Int) (a20 : Int) (a21 : Int) (a22 : Int) : DD (Lf rofN rofR) :=
 .ask (Cm.run Cm.geq a18 a9)
   (.ask (Cm.run Cm.leq a18 a10)
   (.ask (Cm.run Cm.geq a19 a11)
   (.ask (Cm.run Cm.leq a19 a12)
   (.ask (Cm.run Cm.geq a20 a13)
   (.ask (Cm.run Cm.leq a20 a14)
   (.ask (Cm.run Cm.geq a16 0)
   (.ask (Cm.run Cm.leq a16 (Ar.run Ar.sub IntKind.i64 ((↑a0 : Int)) 1))
   (.ask (Cm.run Cm.geq a17 a3)
   (.ask (Cm.run Cm.leq a17 a4)
   (.ask (Cm.run Cm.geq a21 a5)
   (.ask (Cm.run Cm.leq a21 a6)
   (.ask (Cm.run Cm.geq a22 a7)
   (.ask (Cm.run Cm.leq a22 a8)
   (.ask (Cm.run Cm.geq a15 (-20000000))
   (.ask (Cm.run Cm.leq a15 20000000)
   (.leaf (.done true []))
   (.leaf (.done false [])))
   (.leaf (.done false [])))
   (.leaf (.done false [])))
   (.leaf (.done false [])))
   (.leaf (.done false [])))
   (.leaf (.done false [])))
   (.leaf (.done false [])))
   (.leaf (.done false [])))
   (.leaf (.done false [])))
   (.leaf (.done false [])))
   (.leaf (.done false [])))
   (.leaf (.done false [])))
   (.leaf (.done false [])))
   (.leaf (.done false [])))
   (.leaf (.done false [])))
   (.leaf (.done false []))

noncomputable def rofD (a0 : Nat) (a1 : Nat → Int) (a2 : Nat → Int) (a3 : Int) (a4 : Int) (a5 : Int) (a6 : Int) (a7 : Int) (a8 : Int) (a9 : Int) (a10 : Int) (a11 : Int) (a12 : Int) (a13 : Int) (a14 : Int) (a15 : Int) (a16 : Int) (a17 : Int) (a18 : Int) (a19 : Int) (a20 : Int) (a21 : Int) (a22 : Int) : rofN → DD (Lf rofN rofR) := fun a => nomatch a

noncomputable def rofA (a0 : Nat) (a1 : Nat → Int) (a2 : Nat → Int) (a3 : Int) (a4 : Int) (a5 : Int) (a6 : Int) (a7 : Int) (a8 : Int) (a9 : Int) (a10 : Int) (a11 : Int) (a12 : Int) (a13 : Int) (a14 : Int) (a15 : Int) (a16 : Int) (a17 : Int) (a18 : Int) (a19 : Int) (a20 : Int) (a21 : Int) (a22 : Int) : AF rofN rofR where
  code := rofCode
  base := 1
  nt := 73
  m := 400
  un := [2]
  W := []
  h0 := [(0, ⟨.arg a0 2 (fun i => [.int .i64 (.x (a1 i)), .int .i64 (.x (a2 i))]) (fun _ => ⟨rfl, rfl⟩), 2, true, none⟩)]
  args := [.agg [.sla 0 2 0 a0, .int .i64 (.x a3), .int .i64 (.x a4), .int .i64 (.x a5), .int .i64 (.x a6), .int .i64 (.x a7), .int .i64 (.x a8)], .agg [.int .i64 (.x a9), .int .i64 (.x a10), .int .i64 (.x a11), .int .i64 (.x a12), .int .i64 (.x a13), .int .i64 (.x a14)], .agg [.int .i64 (.x a15), .int .i64 (.x a16), .int .i64 (.x a17), .int .i64 (.x a18), .int .i64 (.x a19), .int .i64 (.x a20), .int .i64 (.x a21), .int .i64 (.x a22)]]
  res := (Tryz.f13).results.toList
  path := fun a => nomatch a
  pd := fun a => nomatch a
  D0 := rofD0 a0 a1 a2 a3 a4 a5 a6 a7 a8 a9 a10 a11 a12 a13 a14 a15 a16 a17 a18 a19 a20 a21 a22
  D := rofD a0 a1 a2 a3 a4 a5 a6 a7 a8 a9 a10 a11 a12 a13 a14 a15 a16 a17 a18 a19 a20 a21 a22
  rc := (fun v => .bool (.x v))
  rh := (fun v => [])
  rn := (fun v => 1)
  rx := (fun v => [])
  rgo := (fun _ => none)


theorem rofstart (a0 : Nat) (a1 : Nat → Int) (a2 : Nat → Int) (a3 : Int) (a4 : Int) (a5 : Int) (a6 : Int) (a7 : Int) (a8 : Int) (a9 : Int) (a10 : Int) (a11 : Int) (a12 : Int) (a13 : Int) (a14 : Int) (a15 : Int) (a16 : Int) (a17 : Int) (a18 : Int) (a19 : Int) (a20 : Int) (a21 : Int) (a22 : Int) : AF.edgeOk (rofA a0 a1 a2 a3 a4 a5 a6 a7 a8 a9 a10 a11 a12 a13 a14 a15 a16 a17 a18 a19 a20 a21 a22) (ctxOf Tryz.prog memo0) (rofD0 a0 a1 a2 a3 a4 a5 a6 a7 a8 a9 a10 a11 a12 a13 a14 a15 a16 a17 a18 a19 a20 a21 a22) (AF.run0 (rofA a0 a1 a2 a3 a4 a5 a6 a7 a8 a9 a10 a11 a12 a13 a14 a15 a16 a17 a18 a19 a20 a21 a22) (ctxOf Tryz.prog memo0)) := by unfold AF.edgeOk; kernel_rfl

theorem rofok (a0 : Nat) (a1 : Nat → Int) (a2 : Nat → Int) (a3 : Int) (a4 : Int) (a5 : Int) (a6 : Int) (a7 : Int) (a8 : Int) (a9 : Int) (a10 : Int) (a11 : Int) (a12 : Int) (a13 : Int) (a14 : Int) (a15 : Int) (a16 : Int) (a17 : Int) (a18 : Int) (a19 : Int) (a20 : Int) (a21 : Int) (a22 : Int) : (rofA a0 a1 a2 a3 a4 a5 a6 a7 a8 a9 a10 a11 a12 a13 a14 a15 a16 a17 a18 a19 a20 a21 a22).Ok Tryz.prog (ctxOf Tryz.prog memo0) where
  regs := by kernel_rfl
  h0 := by kernel_rfl
  start := rofstart a0 a1 a2 a3 a4 a5 a6 a7 a8 a9 a10 a11 a12 a13 a14 a15 a16 a17 a18 a19 a20 a21 a22
  node := fun a _ => nomatch a
  pd := fun a => nomatch a
  le := fun a => nomatch a
  rd := fun v => ⟨⟨fa_nil, fa_nil, fa_nil, rfl⟩, rfl⟩
  wb := rfl


theorem rofhR {ρ : Env} (a0 : Nat) (a1 : Nat → Int) (a2 : Nat → Int) (a3 : Int) (a4 : Int) (a5 : Int) (a6 : Int) (a7 : Int) (a8 : Int) (a9 : Int) (a10 : Int) (a11 : Int) (a12 : Int) (a13 : Int) (a14 : Int) (a15 : Int) (a16 : Int) (a17 : Int) (a18 : Int) (a19 : Int) (a20 : Int) (a21 : Int) (a22 : Int) (hM : MemoOk Tryz.prog (ctxOf Tryz.prog memo0) ρ) : ∀ X a q n D, FxOk ρ X → X.base = (rofA a0 a1 a2 a3 a4 a5 a6 a7 a8 a9 a10 a11 a12 a13 a14 a15 a16 a17 a18 a19 a20 a21 a22).base → X.nt = (rofA a0 a1 a2 a3 a4 a5 a6 a7 a8 a9 a10 a11 a12 a13 a14 a15 a16 a17 a18 a19 a20 a21 a22).nt → X.W = (rofA a0 a1 a2 a3 a4 a5 a6 a7 a8 a9 a10 a11 a12 a13 a14 a15 a16 a17 a18 a19 a20 a21 a22).W → (rofA a0 a1 a2 a3 a4 a5 a6 a7 a8 a9 a10 a11 a12 a13 a14 a15 a16 a17 a18 a19 a20 a21 a22).rgo a = some q → q n = some D → (rofA a0 a1 a2 a3 a4 a5 a6 a7 a8 a9 a10 a11 a12 a13 a14 a15 a16 a17 a18 a19 a20 a21 a22).RangeOk Tryz.prog ρ X a D := AF.noRange rfl

theorem rofctr {ρ : Env} (a0 : Nat) (a1 : Nat → Int) (a2 : Nat → Int) (a3 : Int) (a4 : Int) (a5 : Int) (a6 : Int) (a7 : Int) (a8 : Int) (a9 : Int) (a10 : Int) (a11 : Int) (a12 : Int) (a13 : Int) (a14 : Int) (a15 : Int) (a16 : Int) (a17 : Int) (a18 : Int) (a19 : Int) (a20 : Int) (a21 : Int) (a22 : Int) {n : Nat} {v : rofR} (hM : MemoOk Tryz.prog (ctxOf Tryz.prog memo0) ρ) (hv : (rofA a0 a1 a2 a3 a4 a5 a6 a7 a8 a9 a10 a11 a12 a13 a14 a15 a16 a17 a18 a19 a20 a21 a22).run n = some v) :
    Ctr Tryz.prog ρ 13 (rofA a0 a1 a2 a3 a4 a5 a6 a7 a8 a9 a10 a11 a12 a13 a14 a15 a16 a17 a18 a19 a20 a21 a22).args (rofA a0 a1 a2 a3 a4 a5 a6 a7 a8 a9 a10 a11 a12 a13 a14 a15 a16 a17 a18 a19 a20 a21 a22).H0 (rofA a0 a1 a2 a3 a4 a5 a6 a7 a8 a9 a10 a11 a12 a13 a14 a15 a16 a17 a18 a19 a20 a21 a22).base (rofA a0 a1 a2 a3 a4 a5 a6 a7 a8 a9 a10 a11 a12 a13 a14 a15 a16 a17 a18 a19 a20 a21 a22).W ((rofA a0 a1 a2 a3 a4 a5 a6 a7 a8 a9 a10 a11 a12 a13 a14 a15 a16 a17 a18 a19 a20 a21 a22).rc v) (putH (rofA a0 a1 a2 a3 a4 a5 a6 a7 a8 a9 a10 a11 a12 a13 a14 a15 a16 a17 a18 a19 a20 a21 a22).H0 ((rofA a0 a1 a2 a3 a4 a5 a6 a7 a8 a9 a10 a11 a12 a13 a14 a15 a16 a17 a18 a19 a20 a21 a22).rh v ++ (rofA a0 a1 a2 a3 a4 a5 a6 a7 a8 a9 a10 a11 a12 a13 a14 a15 a16 a17 a18 a19 a20 a21 a22).rx v)) ((rofA a0 a1 a2 a3 a4 a5 a6 a7 a8 a9 a10 a11 a12 a13 a14 a15 a16 a17 a18 a19 a20 a21 a22).rn v) :=
  AF.ctr try_ok hM (rofok a0 a1 a2 a3 a4 a5 a6 a7 a8 a9 a10 a11 a12 a13 a14 a15 a16 a17 a18 a19 a20 a21 a22) (fn := Tryz.f13) Tryz.func13 rfl rfl (Nat.le_of_ble_eq_true rfl) rfl (rofhR a0 a1 a2 a3 a4 a5 a6 a7 a8 a9 a10 a11 a12 a13 a14 a15 a16 a17 a18 a19 a20 a21 a22 hM) hv


theorem rofmem {ρ : Env} : MemoOk Tryz.prog (ctxOf Tryz.prog memo0) ρ := memo0_ok


abbrev rofP : List AQ := [.agg [.rows [some .i64, some .i64], .int .i64, .int .i64, .int .i64, .int .i64, .int .i64, .int .i64], .agg [.int .i64, .int .i64, .int .i64, .int .i64, .int .i64, .int .i64], .agg [.int .i64, .int .i64, .int .i64, .int .i64, .int .i64, .int .i64, .int .i64, .int .i64]]

noncomputable def rofF (v : AW) : AF rofN rofR := rofA (v.t.getD 0 .none).n ((v.t.getD 0 .none).c 0) ((v.t.getD 0 .none).c 1) (v.i.getD 0 0) (v.i.getD 1 0) (v.i.getD 2 0) (v.i.getD 3 0) (v.i.getD 4 0) (v.i.getD 5 0) (v.i.getD 6 0) (v.i.getD 7 0) (v.i.getD 8 0) (v.i.getD 9 0) (v.i.getD 10 0) (v.i.getD 11 0) (v.i.getD 12 0) (v.i.getD 13 0) (v.i.getD 14 0) (v.i.getD 15 0) (v.i.getD 16 0) (v.i.getD 17 0) (v.i.getD 18 0) (v.i.getD 19 0)

noncomputable def rofW : rofR → CV := fun v => .bool (.x v)
noncomputable def rofH : rofR → List (Nat × Blk) := fun v => []



instance : Inhabited rofR := ⟨false⟩
theorem rofknown {ρ : Env} (hM : MemoOk Tryz.prog (ctxOf Tryz.prog memo0) ρ) : KnownS Tryz.prog ρ 13 rofP rofF rofW rofH 1 where
  fn := ⟨Tryz.f13, Tryz.func13, rfl⟩
  le := Nat.le_of_ble_eq_true rfl
  full := fun r => rfl
  rg := fun r => rfl
  hg := fun r => fa_nil
  ctr := fun v n r h => rofctr (v.t.getD 0 .none).n ((v.t.getD 0 .none).c 0) ((v.t.getD 0 .none).c 1) (v.i.getD 0 0) (v.i.getD 1 0) (v.i.getD 2 0) (v.i.getD 3 0) (v.i.getD 4 0) (v.i.getD 5 0) (v.i.getD 6 0) (v.i.getD 7 0) (v.i.getD 8 0) (v.i.getD 9 0) (v.i.getD 10 0) (v.i.getD 11 0) (v.i.getD 12 0) (v.i.getD 13 0) (v.i.getD 14 0) (v.i.getD 15 0) (v.i.getD 16 0) (v.i.getD 17 0) (v.i.getD 18 0) (v.i.getD 19 0) hM h

end Go.Proofs.YthhceoendicboaaGreat.Cx

/- acme/acmeref05.Value as an automaton. Made by tools/cxauto.py. -/
namespace Go.Proofs.YthhceoendicboaaGreat.Cx
set_option linter.unusedVariables false
set_option linter.unusedSimpArgs false
set_option maxRecDepth 100000
open Go Go.Proofs Go.RowKit

noncomputable abbrev rvaCode : Code := funcCode Tryz.f36


abbrev rvaN := Empty

abbrev rvaR := Int

noncomputable def rvaD0 (a0 : Nat) (a1 : Nat → Int) (a2 : Nat → Int) (a3 : Int) (a4 : Int) (a5 : Int) (a6 : Int) (a7 : Int) (a8 : Int) (a9 : Int) (a10 : Int) (a11 : Int) (a12 : Int) (a13 : Int) (a14 : Int) (a15 : Int) (a16 : Int) : DD (Lf rvaN rvaR) :=
 .must (decide (0 ≤ a10))
   (.must (decide (a10 < (↑a0 : Int)))
   (.must (decide (0 + Int.toNat a10 < a0))
   (.leaf (.done (Ar.run Ar.sub IntKind.i64 (Ar.run Ar.add IntKind.i64 (Ar.run Ar.mul IntKind.i64 4000 (Ar.run Ar.add IntKind.i64 (Ar.run Ar.sub IntKind.i64 a9 a15) a16)) (Ar.run Ar.mul IntKind.i64 (a1 (0 + Int.toNat a10)) (Ar.run Ar.add IntKind.i64 (Ar.run Ar.add IntKind.i64 a12 a13) (Ar.run Ar.mul IntKind.i64 2 a14)))) (Ar.run Ar.mul IntKind.i64 (Ar.run Ar.mul IntKind.i64 4 (a2 (0 + Int.toNat a10))) a11)) []))))

noncomputable def rvaD (a0 : Nat) (a1 : Nat → Int) (a2 : Nat → Int) (a3 : Int) (a4 : Int) (a5 : Int) (a6 : Int) (a7 : Int) (a8 : Int) (a9 : Int) (a10 : Int) (a11 : Int) (a12 : Int) (a13 : Int) (a14 : Int) (a15 : Int) (a16 : Int) : rvaN → DD (Lf rvaN rvaR) := fun a => nomatch a

noncomputable def rvaA (a0 : Nat) (a1 : Nat → Int) (a2 : Nat → Int) (a3 : Int) (a4 : Int) (a5 : Int) (a6 : Int) (a7 : Int) (a8 : Int) (a9 : Int) (a10 : Int) (a11 : Int) (a12 : Int) (a13 : Int) (a14 : Int) (a15 : Int) (a16 : Int) : AF rvaN rvaR where
  code := rvaCode
  base := 1
  nt := 44
  m := 400
  un := []
  W := []
  h0 := [(0, ⟨.arg a0 2 (fun i => [.int .i64 (.x (a1 i)), .int .i64 (.x (a2 i))]) (fun _ => ⟨rfl, rfl⟩), 2, true, none⟩)]
  args := [.agg [.sla 0 2 0 a0, .int .i64 (.x a3), .int .i64 (.x a4), .int .i64 (.x a5), .int .i64 (.x a6), .int .i64 (.x a7), .int .i64 (.x a8)], .agg [.int .i64 (.x a9), .int .i64 (.x a10), .int .i64 (.x a11), .int .i64 (.x a12), .int .i64 (.x a13), .int .i64 (.x a14), .int .i64 (.x a15), .int .i64 (.x a16)]]
  res := (Tryz.f36).results.toList
  path := fun a => nomatch a
  pd := fun a => nomatch a
  D0 := rvaD0 a0 a1 a2 a3 a4 a5 a6 a7 a8 a9 a10 a11 a12 a13 a14 a15 a16
  D := rvaD a0 a1 a2 a3 a4 a5 a6 a7 a8 a9 a10 a11 a12 a13 a14 a15 a16
  rc := (fun v => .int .i64 (.x v))
  rh := (fun v => [])
  rn := (fun v => 1)
  rx := (fun v => [])
  rgo := (fun _ => none)


theorem rvastart (a0 : Nat) (a1 : Nat → Int) (a2 : Nat → Int) (a3 : Int) (a4 : Int) (a5 : Int) (a6 : Int) (a7 : Int) (a8 : Int) (a9 : Int) (a10 : Int) (a11 : Int) (a12 : Int) (a13 : Int) (a14 : Int) (a15 : Int) (a16 : Int) : AF.edgeOk (rvaA a0 a1 a2 a3 a4 a5 a6 a7 a8 a9 a10 a11 a12 a13 a14 a15 a16) (ctxOf Tryz.prog memo0) (rvaD0 a0 a1 a2 a3 a4 a5 a6 a7 a8 a9 a10 a11 a12 a13 a14 a15 a16) (AF.run0 (rvaA a0 a1 a2 a3 a4 a5 a6 a7 a8 a9 a10 a11 a12 a13 a14 a15 a16) (ctxOf Tryz.prog memo0)) := by unfold AF.edgeOk; kernel_rfl

theorem rvaok (a0 : Nat) (a1 : Nat → Int) (a2 : Nat → Int) (a3 : Int) (a4 : Int) (a5 : Int) (a6 : Int) (a7 : Int) (a8 : Int) (a9 : Int) (a10 : Int) (a11 : Int) (a12 : Int) (a13 : Int) (a14 : Int) (a15 : Int) (a16 : Int) : (rvaA a0 a1 a2 a3 a4 a5 a6 a7 a8 a9 a10 a11 a12 a13 a14 a15 a16).Ok Tryz.prog (ctxOf Tryz.prog memo0) where
  regs := by kernel_rfl
  h0 := by kernel_rfl
  start := rvastart a0 a1 a2 a3 a4 a5 a6 a7 a8 a9 a10 a11 a12 a13 a14 a15 a16
  node := fun a _ => nomatch a
  pd := fun a => nomatch a
  le := fun a => nomatch a
  rd := fun v => ⟨⟨fa_nil, fa_nil, fa_nil, rfl⟩, rfl⟩
  wb := rfl


theorem rvahR {ρ : Env} (a0 : Nat) (a1 : Nat → Int) (a2 : Nat → Int) (a3 : Int) (a4 : Int) (a5 : Int) (a6 : Int) (a7 : Int) (a8 : Int) (a9 : Int) (a10 : Int) (a11 : Int) (a12 : Int) (a13 : Int) (a14 : Int) (a15 : Int) (a16 : Int) (hM : MemoOk Tryz.prog (ctxOf Tryz.prog memo0) ρ) : ∀ X a q n D, FxOk ρ X → X.base = (rvaA a0 a1 a2 a3 a4 a5 a6 a7 a8 a9 a10 a11 a12 a13 a14 a15 a16).base → X.nt = (rvaA a0 a1 a2 a3 a4 a5 a6 a7 a8 a9 a10 a11 a12 a13 a14 a15 a16).nt → X.W = (rvaA a0 a1 a2 a3 a4 a5 a6 a7 a8 a9 a10 a11 a12 a13 a14 a15 a16).W → (rvaA a0 a1 a2 a3 a4 a5 a6 a7 a8 a9 a10 a11 a12 a13 a14 a15 a16).rgo a = some q → q n = some D → (rvaA a0 a1 a2 a3 a4 a5 a6 a7 a8 a9 a10 a11 a12 a13 a14 a15 a16).RangeOk Tryz.prog ρ X a D := AF.noRange rfl

theorem rvactr {ρ : Env} (a0 : Nat) (a1 : Nat → Int) (a2 : Nat → Int) (a3 : Int) (a4 : Int) (a5 : Int) (a6 : Int) (a7 : Int) (a8 : Int) (a9 : Int) (a10 : Int) (a11 : Int) (a12 : Int) (a13 : Int) (a14 : Int) (a15 : Int) (a16 : Int) {n : Nat} {v : rvaR} (hM : MemoOk Tryz.prog (ctxOf Tryz.prog memo0) ρ) (hv : (rvaA a0 a1 a2 a3 a4 a5 a6 a7 a8 a9 a10 a11 a12 a13 a14 a15 a16).run n = some v) :
    Ctr Tryz.prog ρ 36 (rvaA a0 a1 a2 a3 a4 a5 a6 a7 a8 a9 a10 a11 a12 a13 a14 a15 a16).args (rvaA a0 a1 a2 a3 a4 a5 a6 a7 a8 a9 a10 a11 a12 a13 a14 a15 a16).H0 (rvaA a0 a1 a2 a3 a4 a5 a6 a7 a8 a9 a10 a11 a12 a13 a14 a15 a16).base (rvaA a0 a1 a2 a3 a4 a5 a6 a7 a8 a9 a10 a11 a12 a13 a14 a15 a16).W ((rvaA a0 a1 a2 a3 a4 a5 a6 a7 a8 a9 a10 a11 a12 a13 a14 a15 a16).rc v) (putH (rvaA a0 a1 a2 a3 a4 a5 a6 a7 a8 a9 a10 a11 a12 a13 a14 a15 a16).H0 ((rvaA a0 a1 a2 a3 a4 a5 a6 a7 a8 a9 a10 a11 a12 a13 a14 a15 a16).rh v ++ (rvaA a0 a1 a2 a3 a4 a5 a6 a7 a8 a9 a10 a11 a12 a13 a14 a15 a16).rx v)) ((rvaA a0 a1 a2 a3 a4 a5 a6 a7 a8 a9 a10 a11 a12 a13 a14 a15 a16).rn v) :=
  AF.ctr try_ok hM (rvaok a0 a1 a2 a3 a4 a5 a6 a7 a8 a9 a10 a11 a12 a13 a14 a15 a16) (fn := Tryz.f36) Tryz.func36 rfl rfl (Nat.le_of_ble_eq_true rfl) rfl (rvahR a0 a1 a2 a3 a4 a5 a6 a7 a8 a9 a10 a11 a12 a13 a14 a15 a16 hM) hv


theorem rvamem {ρ : Env} : MemoOk Tryz.prog (ctxOf Tryz.prog memo0) ρ := memo0_ok


abbrev rvaP : List AQ := [.agg [.rows [some .i64, some .i64], .int .i64, .int .i64, .int .i64, .int .i64, .int .i64, .int .i64], .agg [.int .i64, .int .i64, .int .i64, .int .i64, .int .i64, .int .i64, .int .i64, .int .i64]]

noncomputable def rvaF (v : AW) : AF rvaN rvaR := rvaA (v.t.getD 0 .none).n ((v.t.getD 0 .none).c 0) ((v.t.getD 0 .none).c 1) (v.i.getD 0 0) (v.i.getD 1 0) (v.i.getD 2 0) (v.i.getD 3 0) (v.i.getD 4 0) (v.i.getD 5 0) (v.i.getD 6 0) (v.i.getD 7 0) (v.i.getD 8 0) (v.i.getD 9 0) (v.i.getD 10 0) (v.i.getD 11 0) (v.i.getD 12 0) (v.i.getD 13 0)

noncomputable def rvaW : rvaR → CV := fun v => .int .i64 (.x v)
noncomputable def rvaH : rvaR → List (Nat × Blk) := fun v => []



instance : Inhabited rvaR := ⟨0⟩
theorem rvaknown {ρ : Env} (hM : MemoOk Tryz.prog (ctxOf Tryz.prog memo0) ρ) : KnownS Tryz.prog ρ 36 rvaP rvaF rvaW rvaH 1 where
  fn := ⟨Tryz.f36, Tryz.func36, rfl⟩
  le := Nat.le_of_ble_eq_true rfl
  full := fun r => rfl
  rg := fun r => rfl
  hg := fun r => fa_nil
  ctr := fun v n r h => rvactr (v.t.getD 0 .none).n ((v.t.getD 0 .none).c 0) ((v.t.getD 0 .none).c 1) (v.i.getD 0 0) (v.i.getD 1 0) (v.i.getD 2 0) (v.i.getD 3 0) (v.i.getD 4 0) (v.i.getD 5 0) (v.i.getD 6 0) (v.i.getD 7 0) (v.i.getD 8 0) (v.i.getD 9 0) (v.i.getD 10 0) (v.i.getD 11 0) (v.i.getD 12 0) (v.i.getD 13 0) hM h

end Go.Proofs.YthhceoendicboaaGreat.Cx

/- acme/acmeref05.Shown as an automaton. Made by tools/cxauto.py. -/
namespace Go.Proofs.YthhceoendicboaaGreat.Cx
set_option linter.unusedVariables false
set_option linter.unusedSimpArgs false
set_option maxRecDepth 100000
open Go Go.Proofs Go.RowKit

noncomputable abbrev rshCode : Code := funcCode Tryz.f14


abbrev rshN := Empty

abbrev rshR := Int

noncomputable def rshD0 (a0 : Nat) (a1 : Nat → Int) (a2 : Nat → Int) (a3 : Int) (a4 : Int) (a5 : Int) (a6 : Int) (a7 : Int) (a8 : Int) (a9 : Int) (a10 : Int) (a11 : Int) (a12 : Int) (a13 : Int) (a14 : Int) (a15 : Int) (a16 : Int) : DD (Lf rshN rshR) :=
 .must (decide (0 + a0 ≤ a0))
   (.must (ShapeOk [some IntKind.i64, some IntKind.i64] (tabOf a0 fun i => [CV.int IntKind.i64 (IE.x (a1 (0 + i))), CV.int IntKind.i64 (IE.x (a2 (0 + i)))]) fun i => [CV.int IntKind.i64 (IE.x (a1 (0 + i))), CV.int IntKind.i64 (IE.x (a2 (0 + i)))])
   (.must (AF.fin (rvaA a0 (fun i => a1 (0 + i)) (fun i => a2 (0 + i)) a3 a4 a5 a6 a7 a8 a9 a10 a11 a12 a13 a14 a15 a16))
   (.ask (Cm.run Cm.gtr (Ar.run Ar.mul IntKind.i64 (Ar.run Ar.quo IntKind.i64 (AF.val (rvaA a0 (fun i => a1 (0 + i)) (fun i => a2 (0 + i)) a3 a4 a5 a6 a7 a8 a9 a10 a11 a12 a13 a14 a15 a16)) 4000) 4000) (AF.val (rvaA a0 (fun i => a1 (0 + i)) (fun i => a2 (0 + i)) a3 a4 a5 a6 a7 a8 a9 a10 a11 a12 a13 a14 a15 a16)))
   (.leaf (.done (Ar.run Ar.sub IntKind.i64 (Ar.run Ar.quo IntKind.i64 (AF.val (rvaA a0 (fun i => a1 (0 + i)) (fun i => a2 (0 + i)) a3 a4 a5 a6 a7 a8 a9 a10 a11 a12 a13 a14 a15 a16)) 4000) 1) []))
   (.leaf (.done (Ar.run Ar.quo IntKind.i64 (AF.val (rvaA a0 (fun i => a1 (0 + i)) (fun i => a2 (0 + i)) a3 a4 a5 a6 a7 a8 a9 a10 a11 a12 a13 a14 a15 a16)) 4000) [])))))

noncomputable def rshD (a0 : Nat) (a1 : Nat → Int) (a2 : Nat → Int) (a3 : Int) (a4 : Int) (a5 : Int) (a6 : Int) (a7 : Int) (a8 : Int) (a9 : Int) (a10 : Int) (a11 : Int) (a12 : Int) (a13 : Int) (a14 : Int) (a15 : Int) (a16 : Int) : rshN → DD (Lf rshN rshR) := fun a => nomatch a

noncomputable def rshA (a0 : Nat) (a1 : Nat → Int) (a2 : Nat → Int) (a3 : Int) (a4 : Int) (a5 : Int) (a6 : Int) (a7 : Int) (a8 : Int) (a9 : Int) (a10 : Int) (a11 : Int) (a12 : Int) (a13 : Int) (a14 : Int) (a15 : Int) (a16 : Int) : AF rshN rshR where
  code := rshCode
  base := 1
  nt := 19
  m := 400
  un := []
  W := []
  h0 := [(0, ⟨.arg a0 2 (fun i => [.int .i64 (.x (a1 i)), .int .i64 (.x (a2 i))]) (fun _ => ⟨rfl, rfl⟩), 2, true, none⟩)]
  args := [.agg [.sla 0 2 0 a0, .int .i64 (.x a3), .int .i64 (.x a4), .int .i64 (.x a5), .int .i64 (.x a6), .int .i64 (.x a7), .int .i64 (.x a8)], .agg [.int .i64 (.x a9), .int .i64 (.x a10), .int .i64 (.x a11), .int .i64 (.x a12), .int .i64 (.x a13), .int .i64 (.x a14), .int .i64 (.x a15), .int .i64 (.x a16)]]
  res := (Tryz.f14).results.toList
  path := fun a => nomatch a
  pd := fun a => nomatch a
  D0 := rshD0 a0 a1 a2 a3 a4 a5 a6 a7 a8 a9 a10 a11 a12 a13 a14 a15 a16
  D := rshD a0 a1 a2 a3 a4 a5 a6 a7 a8 a9 a10 a11 a12 a13 a14 a15 a16
  rc := (fun v => .int .i64 (.x v))
  rh := (fun v => [])
  rn := (fun v => 1)
  rx := (fun v => [])
  rgo := (fun _ => none)


theorem rshstart (a0 : Nat) (a1 : Nat → Int) (a2 : Nat → Int) (a3 : Int) (a4 : Int) (a5 : Int) (a6 : Int) (a7 : Int) (a8 : Int) (a9 : Int) (a10 : Int) (a11 : Int) (a12 : Int) (a13 : Int) (a14 : Int) (a15 : Int) (a16 : Int) : AF.edgeOk (rshA a0 a1 a2 a3 a4 a5 a6 a7 a8 a9 a10 a11 a12 a13 a14 a15 a16) (ctxOf Tryz.prog memo0) (rshD0 a0 a1 a2 a3 a4 a5 a6 a7 a8 a9 a10 a11 a12 a13 a14 a15 a16) (AF.run0 (rshA a0 a1 a2 a3 a4 a5 a6 a7 a8 a9 a10 a11 a12 a13 a14 a15 a16) (ctxOf Tryz.prog (memoS 36 rvaP rvaF rvaW rvaH 1 memo0))) := by unfold AF.edgeOk; kernel_rfl

theorem rshok (a0 : Nat) (a1 : Nat → Int) (a2 : Nat → Int) (a3 : Int) (a4 : Int) (a5 : Int) (a6 : Int) (a7 : Int) (a8 : Int) (a9 : Int) (a10 : Int) (a11 : Int) (a12 : Int) (a13 : Int) (a14 : Int) (a15 : Int) (a16 : Int) : (rshA a0 a1 a2 a3 a4 a5 a6 a7 a8 a9 a10 a11 a12 a13 a14 a15 a16).Ok Tryz.prog (ctxOf Tryz.prog (memoS 36 rvaP rvaF rvaW rvaH 1 memo0)) where
  regs := by kernel_rfl
  h0 := by kernel_rfl
  start := rshstart a0 a1 a2 a3 a4 a5 a6 a7 a8 a9 a10 a11 a12 a13 a14 a15 a16
  node := fun a _ => nomatch a
  pd := fun a => nomatch a
  le := fun a => nomatch a
  rd := fun v => ⟨⟨fa_nil, fa_nil, fa_nil, rfl⟩, rfl⟩
  wb := rfl


theorem rshhR {ρ : Env} (a0 : Nat) (a1 : Nat → Int) (a2 : Nat → Int) (a3 : Int) (a4 : Int) (a5 : Int) (a6 : Int) (a7 : Int) (a8 : Int) (a9 : Int) (a10 : Int) (a11 : Int) (a12 : Int) (a13 : Int) (a14 : Int) (a15 : Int) (a16 : Int) (hM : MemoOk Tryz.prog (ctxOf Tryz.prog (memoS 36 rvaP rvaF rvaW rvaH 1 memo0)) ρ) : ∀ X a q n D, FxOk ρ X → X.base = (rshA a0 a1 a2 a3 a4 a5 a6 a7 a8 a9 a10 a11 a12 a13 a14 a15 a16).base → X.nt = (rshA a0 a1 a2 a3 a4 a5 a6 a7 a8 a9 a10 a11 a12 a13 a14 a15 a16).nt → X.W = (rshA a0 a1 a2 a3 a4 a5 a6 a7 a8 a9 a10 a11 a12 a13 a14 a15 a16).W → (rshA a0 a1 a2 a3 a4 a5 a6 a7 a8 a9 a10 a11 a12 a13 a14 a15 a16).rgo a = some q → q n = some D → (rshA a0 a1 a2 a3 a4 a5 a6 a7 a8 a9 a10 a11 a12 a13 a14 a15 a16).RangeOk Tryz.prog ρ X a D := AF.noRange rfl

theorem rshctr {ρ : Env} (a0 : Nat) (a1 : Nat → Int) (a2 : Nat → Int) (a3 : Int) (a4 : Int) (a5 : Int) (a6 : Int) (a7 : Int) (a8 : Int) (a9 : Int) (a10 : Int) (a11 : Int) (a12 : Int) (a13 : Int) (a14 : Int) (a15 : Int) (a16 : Int) {n : Nat} {v : rshR} (hM : MemoOk Tryz.prog (ctxOf Tryz.prog (memoS 36 rvaP rvaF rvaW rvaH 1 memo0)) ρ) (hv : (rshA a0 a1 a2 a3 a4 a5 a6 a7 a8 a9 a10 a11 a12 a13 a14 a15 a16).run n = some v) :
    Ctr Tryz.prog ρ 14 (rshA a0 a1 a2 a3 a4 a5 a6 a7 a8 a9 a10 a11 a12 a13 a14 a15 a16).args (rshA a0 a1 a2 a3 a4 a5 a6 a7 a8 a9 a10 a11 a12 a13 a14 a15 a16).H0 (rshA a0 a1 a2 a3 a4 a5 a6 a7 a8 a9 a10 a11 a12 a13 a14 a15 a16).base (rshA a0 a1 a2 a3 a4 a5 a6 a7 a8 a9 a10 a11 a12 a13 a14 a15 a16).W ((rshA a0 a1 a2 a3 a4 a5 a6 a7 a8 a9 a10 a11 a12 a13 a14 a15 a16).rc v) (putH (rshA a0 a1 a2 a3 a4 a5 a6 a7 a8 a9 a10 a11 a12 a13 a14 a15 a16).H0 ((rshA a0 a1 a2 a3 a4 a5 a6 a7 a8 a9 a10 a11 a12 a13 a14 a15 a16).rh v ++ (rshA a0 a1 a2 a3 a4 a5 a6 a7 a8 a9 a10 a11 a12 a13 a14 a15 a16).rx v)) ((rshA a0 a1 a2 a3 a4 a5 a6 a7 a8 a9 a10 a11 a12 a13 a14 a15 a16).rn v) :=
  AF.ctr try_ok hM (rshok a0 a1 a2 a3 a4 a5 a6 a7 a8 a9 a10 a11 a12 a13 a14 a15 a16) (fn := Tryz.f14) Tryz.func14 rfl rfl (Nat.le_of_ble_eq_true rfl) rfl (rshhR a0 a1 a2 a3 a4 a5 a6 a7 a8 a9 a10 a11 a12 a13 a14 a15 a16 hM) hv


theorem rshmem {ρ : Env} : MemoOk Tryz.prog (ctxOf Tryz.prog (memoS 36 rvaP rvaF rvaW rvaH 1 memo0)) ρ := (memoS_ok (rvaknown rvamem) memo0_ok)


abbrev rshP : List AQ := [.agg [.rows [some .i64, some .i64], .int .i64, .int .i64, .int .i64, .int .i64, .int .i64, .int .i64], .agg [.int .i64, .int .i64, .int .i64, .int .i64, .int .i64, .int .i64, .int .i64, .int .i64]]

noncomputable def rshF (v : AW) : AF rshN rshR := rshA (v.t.getD 0 .none).n ((v.t.getD 0 .none).c 0) ((v.t.getD 0 .none).c 1) (v.i.getD 0 0) (v.i.getD 1 0) (v.i.getD 2 0) (v.i.getD 3 0) (v.i.getD 4 0) (v.i.getD 5 0) (v.i.getD 6 0) (v.i.getD 7 0) (v.i.getD 8 0) (v.i.getD 9 0) (v.i.getD 10 0) (v.i.getD 11 0) (v.i.getD 12 0) (v.i.getD 13 0)

noncomputable def rshW : rshR → CV := fun v => .int .i64 (.x v)
noncomputable def rshH : rshR → List (Nat × Blk) := fun v => []



instance : Inhabited rshR := ⟨0⟩
theorem rshknown {ρ : Env} (hM : MemoOk Tryz.prog (ctxOf Tryz.prog (memoS 36 rvaP rvaF rvaW rvaH 1 memo0)) ρ) : KnownS Tryz.prog ρ 14 rshP rshF rshW rshH 1 where
  fn := ⟨Tryz.f14, Tryz.func14, rfl⟩
  le := Nat.le_of_ble_eq_true rfl
  full := fun r => rfl
  rg := fun r => rfl
  hg := fun r => fa_nil
  ctr := fun v n r h => rshctr (v.t.getD 0 .none).n ((v.t.getD 0 .none).c 0) ((v.t.getD 0 .none).c 1) (v.i.getD 0 0) (v.i.getD 1 0) (v.i.getD 2 0) (v.i.getD 3 0) (v.i.getD 4 0) (v.i.getD 5 0) (v.i.getD 6 0) (v.i.getD 7 0) (v.i.getD 8 0) (v.i.getD 9 0) (v.i.getD 10 0) (v.i.getD 11 0) (v.i.getD 12 0) (v.i.getD 13 0) hM h

end Go.Proofs.YthhceoendicboaaGreat.Cx

/- acme/acmeref05.End as an automaton. Made by tools/cxauto.py. -/
namespace Go.Proofs.YthhceoendicboaaGreat.Cx
set_option linter.unusedVariables false
set_option linter.unusedSimpArgs false
set_option maxRecDepth 100000
open Go Go.Proofs Go.RowKit

noncomputable abbrev redCode : Code := funcCode Tryz.f37


abbrev redN := Empty

abbrev redR := Int

noncomputable def redD0 (a0 : Int) (a1 : Int) (a2 : Int) (a3 : Int) : DD (Lf redN redR) :=
 .must (Cm.run Cm.geq (Ar.run Ar.conv IntKind.u64 a3 0) 0)
   (.ask (Cm.run Cm.eql (Ar.run Ar.and IntKind.i64 (Ar.run Ar.shr IntKind.i64 a2 (Ar.run Ar.conv IntKind.u64 a3 0)) 1) 1)
   (.leaf (.done a1 []))
   (.leaf (.done a0 [])))

noncomputable def redD (a0 : Int) (a1 : Int) (a2 : Int) (a3 : Int) : redN → DD (Lf redN redR) := fun a => nomatch a

noncomputable def redA (a0 : Int) (a1 : Int) (a2 : Int) (a3 : Int) : AF redN redR where
  code := redCode
  base := 0
  nt := 17
  m := 400
  un := []
  W := []
  h0 := []
  args := [.agg [.int .i64 (.x a0), .int .i64 (.x a1)], .int .i64 (.x a2), .int .i64 (.x a3)]
  res := (Tryz.f37).results.toList
  path := fun a => nomatch a
  pd := fun a => nomatch a
  D0 := redD0 a0 a1 a2 a3
  D := redD a0 a1 a2 a3
  rc := (fun v => .int .i64 (.x v))
  rh := (fun v => [])
  rn := (fun v => 0)
  rx := (fun v => [])
  rgo := (fun _ => none)


theorem redstart (a0 : Int) (a1 : Int) (a2 : Int) (a3 : Int) : AF.edgeOk (redA a0 a1 a2 a3) (ctxOf Tryz.prog memo0) (redD0 a0 a1 a2 a3) (AF.run0 (redA a0 a1 a2 a3) (ctxOf Tryz.prog memo0)) := by unfold AF.edgeOk; kernel_rfl

theorem redok (a0 : Int) (a1 : Int) (a2 : Int) (a3 : Int) : (redA a0 a1 a2 a3).Ok Tryz.prog (ctxOf Tryz.prog memo0) where
  regs := by kernel_rfl
  h0 := by kernel_rfl
  start := redstart a0 a1 a2 a3
  node := fun a _ => nomatch a
  pd := fun a => nomatch a
  le := fun a => nomatch a
  rd := fun v => ⟨⟨fa_nil, fa_nil, fa_nil, rfl⟩, rfl⟩
  wb := rfl


theorem redhR {ρ : Env} (a0 : Int) (a1 : Int) (a2 : Int) (a3 : Int) (hM : MemoOk Tryz.prog (ctxOf Tryz.prog memo0) ρ) : ∀ X a q n D, FxOk ρ X → X.base = (redA a0 a1 a2 a3).base → X.nt = (redA a0 a1 a2 a3).nt → X.W = (redA a0 a1 a2 a3).W → (redA a0 a1 a2 a3).rgo a = some q → q n = some D → (redA a0 a1 a2 a3).RangeOk Tryz.prog ρ X a D := AF.noRange rfl

theorem redctr {ρ : Env} (a0 : Int) (a1 : Int) (a2 : Int) (a3 : Int) {n : Nat} {v : redR} (hM : MemoOk Tryz.prog (ctxOf Tryz.prog memo0) ρ) (hv : (redA a0 a1 a2 a3).run n = some v) :
    Ctr Tryz.prog ρ 37 (redA a0 a1 a2 a3).args (redA a0 a1 a2 a3).H0 (redA a0 a1 a2 a3).base (redA a0 a1 a2 a3).W ((redA a0 a1 a2 a3).rc v) (putH (redA a0 a1 a2 a3).H0 ((redA a0 a1 a2 a3).rh v ++ (redA a0 a1 a2 a3).rx v)) ((redA a0 a1 a2 a3).rn v) :=
  AF.ctr try_ok hM (redok a0 a1 a2 a3) (fn := Tryz.f37) Tryz.func37 rfl rfl (Nat.le_of_ble_eq_true rfl) rfl (redhR a0 a1 a2 a3 hM) hv


theorem redmem {ρ : Env} : MemoOk Tryz.prog (ctxOf Tryz.prog memo0) ρ := memo0_ok


abbrev redP : List AP := [.agg [.int .i64, .int .i64], .int .i64, .int .i64]
noncomputable def redF (v : AV) : AF redN redR := redA (v.i.getD 0 0) (v.i.getD 1 0) (v.i.getD 2 0) (v.i.getD 3 0)
theorem redknown {ρ : Env} (hM : MemoOk Tryz.prog (ctxOf Tryz.prog memo0) ρ) : KnownA Tryz.prog ρ 37 redP redF where
  fn := ⟨Tryz.f37, Tryz.func37, rfl⟩
  args := fun v => rfl
  plain := fun v r => rfl
  ctr := fun v n r h => redctr (v.i.getD 0 0) (v.i.getD 1 0) (v.i.getD 2 0) (v.i.getD 3 0) hM h

end Go.Proofs.YthhceoendicboaaGreat.Cx

/- acme/acmeref05.Width as an automaton. Made by tools/cxauto.py. -/
namespace Go.Proofs.YthhceoendicboaaGreat.Cx
set_option linter.unusedVariables false
set_option linter.unusedSimpArgs false
set_option maxRecDepth 100000
open Go Go.Proofs Go.RowKit

noncomputable abbrev rwiCode : Code := funcCode Tryz.f12


inductive rwiN where
  | n0 (p0 : Int) (p1 : Int) (p2 : Int)
  | n1 (p0 : Int) (p1 : Int) (p2 : Int) (p3 : Int)

abbrev rwiR := Int

noncomputable def rwiD0 (a0 : Nat) (a1 : Nat → Int) (a2 : Nat → Int) (a3 : Int) (a4 : Int) (a5 : Int) (a6 : Int) (a7 : Int) (a8 : Int) (a9 : Int) (a10 : Int) (a11 : Int) (a12 : Int) (a13 : Int) (a14 : Int) : DD (Lf rwiN rwiR) :=
 .leaf (.next (.n0 1152921504606846976 (-1152921504606846976) 0) [1, 2])

noncomputable def rwiD (a0 : Nat) (a1 : Nat → Int) (a2 : Nat → Int) (a3 : Int) (a4 : Int) (a5 : Int) (a6 : Int) (a7 : Int) (a8 : Int) (a9 : Int) (a10 : Int) (a11 : Int) (a12 : Int) (a13 : Int) (a14 : Int) : rwiN → DD (Lf rwiN rwiR)
 | .n0 p0 p1 p2 =>
 .ask (Cm.run Cm.lss p2 (↑a0 : Int))
   (.leaf (.next (.n1 p0 p1 p2 0) [1, 2]))
   (.leaf (.done (Ar.run Ar.sub IntKind.i64 p1 p0) []))
 | .n1 p0 p1 p2 p3 =>
 .ask (Cm.run Cm.lss p3 64)
   (.must (AF.fin (redA a3 a4 p3 0))
   (.must (AF.fin (redA a5 a6 p3 1))
   (.must (AF.fin (redA a7 a8 p3 2))
   (.must (AF.fin (redA a9 a10 p3 3))
   (.must (AF.fin (redA a11 a12 p3 4))
   (.must (AF.fin (redA a13 a14 p3 5))
   (.must (decide (0 + a0 ≤ a0))
   (.must (ShapeOk [some IntKind.i64, some IntKind.i64] (tabOf a0 fun i => [CV.int IntKind.i64 (IE.x (a1 (0 + i))), CV.int IntKind.i64 (IE.x (a2 (0 + i)))]) fun i => [CV.int IntKind.i64 (IE.x (a1 (0 + i))), CV.int IntKind.i64 (IE.x (a2 (0 + i)))])
   (.must (AF.fin (rvaA a0 (fun i => a1 (0 + i)) (fun i => a2 (0 + i)) a3 a4 a5 a6 a7 a8 0 p2 (AF.val (redA a3 a4 p3 0)) (AF.val (redA a9 a10 p3 3)) (AF.val (redA a11 a12 p3 4)) (AF.val (redA a13 a14 p3 5)) (AF.val (redA a5 a6 p3 1)) (AF.val (redA a7 a8 p3 2))))
   (.leaf (.next (.n1 (Ar.run Ar.mn IntKind.i64 p0 (AF.val (rvaA a0 (fun i => a1 (0 + i)) (fun i => a2 (0 + i)) a3 a4 a5 a6 a7 a8 0 p2 (AF.val (redA a3 a4 p3 0)) (AF.val (redA a9 a10 p3 3)) (AF.val (redA a11 a12 p3 4)) (AF.val (redA a13 a14 p3 5)) (AF.val (redA a5 a6 p3 1)) (AF.val (redA a7 a8 p3 2))))) (Ar.run Ar.mx IntKind.i64 p1 (AF.val (rvaA a0 (fun i => a1 (0 + i)) (fun i => a2 (0 + i)) a3 a4 a5 a6 a7 a8 0 p2 (AF.val (redA a3 a4 p3 0)) (AF.val (redA a9 a10 p3 3)) (AF.val (redA a11 a12 p3 4)) (AF.val (redA a13 a14 p3 5)) (AF.val (redA a5 a6 p3 1)) (AF.val (redA a7 a8 p3 2))))) p2 (Ar.run Ar.add IntKind.i64 p3 1)) [1, 2])))))))))))
   (.leaf (.next (.n0 p0 p1 (Ar.run Ar.add IntKind.i64 p2 1)) [1, 2]))

noncomputable def rwiA (a0 : Nat) (a1 : Nat → Int) (a2 : Nat → Int) (a3 : Int) (a4 : Int) (a5 : Int) (a6 : Int) (a7 : Int) (a8 : Int) (a9 : Int) (a10 : Int) (a11 : Int) (a12 : Int) (a13 : Int) (a14 : Int) : AF rwiN rwiR where
  code := rwiCode
  base := 1
  nt := 62
  m := 400
  un := []
  W := []
  h0 := [(0, ⟨.arg a0 2 (fun i => [.int .i64 (.x (a1 i)), .int .i64 (.x (a2 i))]) (fun _ => ⟨rfl, rfl⟩), 2, true, none⟩)]
  args := [.agg [.sla 0 2 0 a0, .int .i64 (.x a3), .int .i64 (.x a4), .int .i64 (.x a5), .int .i64 (.x a6), .int .i64 (.x a7), .int .i64 (.x a8)], .agg [.int .i64 (.x a9), .int .i64 (.x a10), .int .i64 (.x a11), .int .i64 (.x a12), .int .i64 (.x a13), .int .i64 (.x a14)]]
  res := (Tryz.f12).results.toList
  path := fun a => match a with
   | .n0 p0 p1 p2 => [1, 1, 0, 1, 0]
   | .n1 p0 p1 p2 p3 => [1, 1, 0, 1, 0, 0, 1, 0, 0, 1, 0]
  pd := fun a => match a with
   | .n0 p0 p1 p2 => ⟨[(2, .ptr (some (1, 0))), (3, .ptr (some (2, 0))), (5, .int .i64 (.x p0)), (6, .int .i64 (.x p1)), (7, .int .i64 (.x p2))], [(1, ⟨.lit [.sla 0 2 0 a0, .int .i64 (.x a3), .int .i64 (.x a4), .int .i64 (.x a5), .int .i64 (.x a6), .int .i64 (.x a7), .int .i64 (.x a8)], 0, true, none⟩), (2, ⟨.lit [.int .i64 (.x a9), .int .i64 (.x a10), .int .i64 (.x a11), .int .i64 (.x a12), .int .i64 (.x a13), .int .i64 (.x a14)], 0, true, none⟩)], 3, []⟩
   | .n1 p0 p1 p2 p3 => ⟨[(2, .ptr (some (1, 0))), (3, .ptr (some (2, 0))), (5, .int .i64 (.x p0)), (6, .int .i64 (.x p1)), (7, .int .i64 (.x p2)), (8, .int .i64 (.x p3))], [(1, ⟨.lit [.sla 0 2 0 a0, .int .i64 (.x a3), .int .i64 (.x a4), .int .i64 (.x a5), .int .i64 (.x a6), .int .i64 (.x a7), .int .i64 (.x a8)], 0, true, none⟩), (2, ⟨.lit [.int .i64 (.x a9), .int .i64 (.x a10), .int .i64 (.x a11), .int .i64 (.x a12), .int .i64 (.x a13), .int .i64 (.x a14)], 0, true, none⟩)], 3, []⟩
  D0 := rwiD0 a0 a1 a2 a3 a4 a5 a6 a7 a8 a9 a10 a11 a12 a13 a14
  D := rwiD a0 a1 a2 a3 a4 a5 a6 a7 a8 a9 a10 a11 a12 a13 a14
  rc := (fun v => .int .i64 (.x v))
  rh := (fun v => [])
  rn := (fun v => 1)
  rx := (fun v => [])
  rgo := (fun _ => none)


theorem rwistart (a0 : Nat) (a1 : Nat → Int) (a2 : Nat → Int) (a3 : Int) (a4 : Int) (a5 : Int) (a6 : Int) (a7 : Int) (a8 : Int) (a9 : Int) (a10 : Int) (a11 : Int) (a12 : Int) (a13 : Int) (a14 : Int) : AF.edgeOk (rwiA a0 a1 a2 a3 a4 a5 a6 a7 a8 a9 a10 a11 a12 a13 a14) (ctxOf Tryz.prog memo0) (rwiD0 a0 a1 a2 a3 a4 a5 a6 a7 a8 a9 a10 a11 a12 a13 a14) (AF.run0 (rwiA a0 a1 a2 a3 a4 a5 a6 a7 a8 a9 a10 a11 a12 a13 a14) (ctxOf Tryz.prog (memoS 36 rvaP rvaF rvaW rvaH 1 (memoA 37 redP redF memo0)))) := by unfold AF.edgeOk; kernel_rfl

theorem rwinode0 (a0 : Nat) (a1 : Nat → Int) (a2 : Nat → Int) (a3 : Int) (a4 : Int) (a5 : Int) (a6 : Int) (a7 : Int) (a8 : Int) (a9 : Int) (a10 : Int) (a11 : Int) (a12 : Int) (a13 : Int) (a14 : Int) (p0 : Int) (p1 : Int) (p2 : Int) : AF.edgeOk (rwiA a0 a1 a2 a3 a4 a5 a6 a7 a8 a9 a10 a11 a12 a13 a14) (ctxOf Tryz.prog memo0) (rwiD a0 a1 a2 a3 a4 a5 a6 a7 a8 a9 a10 a11 a12 a13 a14 (.n0 p0 p1 p2)) (AF.runN (rwiA a0 a1 a2 a3 a4 a5 a6 a7 a8 a9 a10 a11 a12 a13 a14) (ctxOf Tryz.prog (memoS 36 rvaP rvaF rvaW rvaH 1 (memoA 37 redP redF memo0))) (.n0 p0 p1 p2)) := by unfold AF.edgeOk; kernel_rfl

theorem rwinode1 (a0 : Nat) (a1 : Nat → Int) (a2 : Nat → Int) (a3 : Int) (a4 : Int) (a5 : Int) (a6 : Int) (a7 : Int) (a8 : Int) (a9 : Int) (a10 : Int) (a11 : Int) (a12 : Int) (a13 : Int) (a14 : Int) (p0 : Int) (p1 : Int) (p2 : Int) (p3 : Int) : AF.edgeOk (rwiA a0 a1 a2 a3 a4 a5 a6 a7 a8 a9 a10 a11 a12 a13 a14) (ctxOf Tryz.prog memo0) (rwiD a0 a1 a2 a3 a4 a5 a6 a7 a8 a9 a10 a11 a12 a13 a14 (.n1 p0 p1 p2 p3)) (AF.runN (rwiA a0 a1 a2 a3 a4 a5 a6 a7 a8 a9 a10 a11 a12 a13 a14) (ctxOf Tryz.prog (memoS 36 rvaP rvaF rvaW rvaH 1 (memoA 37 redP redF memo0))) (.n1 p0 p1 p2 p3)) := by unfold AF.edgeOk; kernel_rfl

theorem rwiok (a0 : Nat) (a1 : Nat → Int) (a2 : Nat → Int) (a3 : Int) (a4 : Int) (a5 : Int) (a6 : Int) (a7 : Int) (a8 : Int) (a9 : Int) (a10 : Int) (a11 : Int) (a12 : Int) (a13 : Int) (a14 : Int) : (rwiA a0 a1 a2 a3 a4 a5 a6 a7 a8 a9 a10 a11 a12 a13 a14).Ok Tryz.prog (ctxOf Tryz.prog (memoS 36 rvaP rvaF rvaW rvaH 1 (memoA 37 redP redF memo0))) where
  regs := by kernel_rfl
  h0 := by kernel_rfl
  start := rwistart a0 a1 a2 a3 a4 a5 a6 a7 a8 a9 a10 a11 a12 a13 a14
  node := fun a _ => match a with
   | .n0 p0 p1 p2 => rwinode0 a0 a1 a2 a3 a4 a5 a6 a7 a8 a9 a10 a11 a12 a13 a14 p0 p1 p2
   | .n1 p0 p1 p2 p3 => rwinode1 a0 a1 a2 a3 a4 a5 a6 a7 a8 a9 a10 a11 a12 a13 a14 p0 p1 p2 p3
  pd := fun a => match a with
   | .n0 p0 p1 p2 => ⟨(fa_cons rfl (fa_cons rfl (fa_cons rfl (fa_cons rfl (fa_cons rfl fa_nil))))), (fa_cons ⟨.inl (Nat.le_of_ble_eq_true rfl), rfl, rfl⟩ (fa_cons ⟨.inl (Nat.le_of_ble_eq_true rfl), rfl, rfl⟩ fa_nil)), fa_nil, rfl⟩
   | .n1 p0 p1 p2 p3 => ⟨(fa_cons rfl (fa_cons rfl (fa_cons rfl (fa_cons rfl (fa_cons rfl (fa_cons rfl fa_nil)))))), (fa_cons ⟨.inl (Nat.le_of_ble_eq_true rfl), rfl, rfl⟩ (fa_cons ⟨.inl (Nat.le_of_ble_eq_true rfl), rfl, rfl⟩ fa_nil)), fa_nil, rfl⟩
  le := fun a => match a with
   | .n0 p0 p1 p2 => Nat.le_of_ble_eq_true rfl
   | .n1 p0 p1 p2 p3 => Nat.le_of_ble_eq_true rfl
  rd := fun v => ⟨⟨fa_nil, fa_nil, fa_nil, rfl⟩, rfl⟩
  wb := rfl


theorem rwihR {ρ : Env} (a0 : Nat) (a1 : Nat → Int) (a2 : Nat → Int) (a3 : Int) (a4 : Int) (a5 : Int) (a6 : Int) (a7 : Int) (a8 : Int) (a9 : Int) (a10 : Int) (a11 : Int) (a12 : Int) (a13 : Int) (a14 : Int) (hM : MemoOk Tryz.prog (ctxOf Tryz.prog (memoS 36 rvaP rvaF rvaW rvaH 1 (memoA 37 redP redF memo0))) ρ) : ∀ X a q n D, FxOk ρ X → X.base = (rwiA a0 a1 a2 a3 a4 a5 a6 a7 a8 a9 a10 a11 a12 a13 a14).base → X.nt = (rwiA a0 a1 a2 a3 a4 a5 a6 a7 a8 a9 a10 a11 a12 a13 a14).nt → X.W = (rwiA a0 a1 a2 a3 a4 a5 a6 a7 a8 a9 a10 a11 a12 a13 a14).W → (rwiA a0 a1 a2 a3 a4 a5 a6 a7 a8 a9 a10 a11 a12 a13 a14).rgo a = some q → q n = some D → (rwiA a0 a1 a2 a3 a4 a5 a6 a7 a8 a9 a10 a11 a12 a13 a14).RangeOk Tryz.prog ρ X a D := AF.noRange rfl

theorem rwictr {ρ : Env} (a0 : Nat) (a1 : Nat → Int) (a2 : Nat → Int) (a3 : Int) (a4 : Int) (a5 : Int) (a6 : Int) (a7 : Int) (a8 : Int) (a9 : Int) (a10 : Int) (a11 : Int) (a12 : Int) (a13 : Int) (a14 : Int) {n : Nat} {v : rwiR} (hM : MemoOk Tryz.prog (ctxOf Tryz.prog (memoS 36 rvaP rvaF rvaW rvaH 1 (memoA 37 redP redF memo0))) ρ) (hv : (rwiA a0 a1 a2 a3 a4 a5 a6 a7 a8 a9 a10 a11 a12 a13 a14).run n = some v) :
    Ctr Tryz.prog ρ 12 (rwiA a0 a1 a2 a3 a4 a5 a6 a7 a8 a9 a10 a11 a12 a13 a14).args (rwiA a0 a1 a2 a3 a4 a5 a6 a7 a8 a9 a10 a11 a12 a13 a14).H0 (rwiA a0 a1 a2 a3 a4 a5 a6 a7 a8 a9 a10 a11 a12 a13 a14).base (rwiA a0 a1 a2 a3 a4 a5 a6 a7 a8 a9 a10 a11 a12 a13 a14).W ((rwiA a0 a1 a2 a3 a4 a5 a6 a7 a8 a9 a10 a11 a12 a13 a14).rc v) (putH (rwiA a0 a1 a2 a3 a4 a5 a6 a7 a8 a9 a10 a11 a12 a13 a14).H0 ((rwiA a0 a1 a2 a3 a4 a5 a6 a7 a8 a9 a10 a11 a12 a13 a14).rh v ++ (rwiA a0 a1 a2 a3 a4 a5 a6 a7 a8 a9 a10 a11 a12 a13 a14).rx v)) ((rwiA a0 a1 a2 a3 a4 a5 a6 a7 a8 a9 a10 a11 a12 a13 a14).rn v) :=
  AF.ctr try_ok hM (rwiok a0 a1 a2 a3 a4 a5 a6 a7 a8 a9 a10 a11 a12 a13 a14) (fn := Tryz.f12) Tryz.func12 rfl rfl (Nat.le_of_ble_eq_true rfl) rfl (rwihR a0 a1 a2 a3 a4 a5 a6 a7 a8 a9 a10 a11 a12 a13 a14 hM) hv


theorem rwimem {ρ : Env} : MemoOk Tryz.prog (ctxOf Tryz.prog (memoS 36 rvaP rvaF rvaW rvaH 1 (memoA 37 redP redF memo0))) ρ := (memoS_ok (rvaknown rvamem) (memoA_ok (redknown redmem) memo0_ok))


abbrev rwiP : List AQ := [.agg [.rows [some .i64, some .i64], .int .i64, .int .i64, .int .i64, .int .i64, .int .i64, .int .i64], .agg [.int .i64, .int .i64, .int .i64, .int .i64, .int .i64, .int .i64]]

noncomputable def rwiF (v : AW) : AF rwiN rwiR := rwiA (v.t.getD 0 .none).n ((v.t.getD 0 .none).c 0) ((v.t.getD 0 .none).c 1) (v.i.getD 0 0) (v.i.getD 1 0) (v.i.getD 2 0) (v.i.getD 3 0) (v.i.getD 4 0) (v.i.getD 5 0) (v.i.getD 6 0) (v.i.getD 7 0) (v.i.getD 8 0) (v.i.getD 9 0) (v.i.getD 10 0) (v.i.getD 11 0)

noncomputable def rwiW : rwiR → CV := fun v => .int .i64 (.x v)
noncomputable def rwiH : rwiR → List (Nat × Blk) := fun v => []



instance : Inhabited rwiR := ⟨0⟩
theorem rwiknown {ρ : Env} (hM : MemoOk Tryz.prog (ctxOf Tryz.prog (memoS 36 rvaP rvaF rvaW rvaH 1 (memoA 37 redP redF memo0))) ρ) : KnownS Tryz.prog ρ 12 rwiP rwiF rwiW rwiH 1 where
  fn := ⟨Tryz.f12, Tryz.func12, rfl⟩
  le := Nat.le_of_ble_eq_true rfl
  full := fun r => rfl
  rg := fun r => rfl
  hg := fun r => fa_nil
  ctr := fun v n r h => rwictr (v.t.getD 0 .none).n ((v.t.getD 0 .none).c 0) ((v.t.getD 0 .none).c 1) (v.i.getD 0 0) (v.i.getD 1 0) (v.i.getD 2 0) (v.i.getD 3 0) (v.i.getD 4 0) (v.i.getD 5 0) (v.i.getD 6 0) (v.i.getD 7 0) (v.i.getD 8 0) (v.i.getD 9 0) (v.i.getD 10 0) (v.i.getD 11 0) hM h

end Go.Proofs.YthhceoendicboaaGreat.Cx

/- wires.Shows, wires.Width and acmeref05's: the same is shown, and the same width. -/
namespace Go.Proofs.YthhceoendicboaaGreat.Cx
set_option linter.unusedVariables false
set_option linter.unusedSimpArgs false
set_option maxRecDepth 100000
set_option maxHeartbeats 4000000
open Go Go.RowKit

theorem td4 (x : Int) : x = 4000 * x.tdiv 4000 + x.tmod 4000 ∧ (0 ≤ x → 0 ≤ x.tmod 4000 ∧ x.tmod 4000 < 4000) ∧ (x ≤ 0 → -4000 < x.tmod 4000 ∧ x.tmod 4000 ≤ 0) := by
  refine ⟨(Int.mul_tdiv_add_tmod x 4000).symm, fun h => ⟨Int.tmod_nonneg _ h, Int.tmod_lt_of_pos _ (by omega)⟩, fun h => ?_⟩
  obtain ⟨y, rfl⟩ : ∃ y, x = -y := ⟨-x, by omega⟩
  rw [Int.neg_tmod]
  have h1 := Int.tmod_nonneg (4000 : Int) (show 0 ≤ y by omega)
  have h2 := Int.tmod_lt_of_pos y (show (0 : Int) < 4000 by omega)
  omega

def TruthOk (a0 : Nat) (a3 a4 a5 a6 a7 a8 a9 a10 a11 a12 a13 a14 a15 a16 a17 a18 a19 a20 a21 a22 : Int) : Prop :=
  (a9 ≤ a18 ∧ a18 ≤ a10) ∧ (a11 ≤ a19 ∧ a19 ≤ a12) ∧ (a13 ≤ a20 ∧ a20 ≤ a14) ∧ (0 ≤ a16 ∧ a16 < a0) ∧ (-20000000 ≤ a15 ∧ a15 ≤ 20000000) ∧ (a3 ≤ a17 ∧ a17 ≤ a4) ∧ (a5 ≤ a21 ∧ a21 ≤ a6) ∧ (a7 ≤ a22 ∧ a22 ≤ a8)

section
variable {a0 : Nat} {a1 a2 : Nat → Int} {a3 a4 a5 a6 a7 a8 a9 a10 a11 a12 a13 a14 a15 a16 a17 a18 a19 a20 a21 a22 : Int}

theorem wst_val (hn : a0 ≤ 10000) : AF.fin (wit_A a0 a1 a2 a3 a4 a5 a6 a7 a8 a9 a10 a11 a12 a13 a14 a15 a16 a17 a18 a19 a20 a21 a22) = true ∧ (AF.val (wit_A a0 a1 a2 a3 a4 a5 a6 a7 a8 a9 a10 a11 a12 a13 a14 a15 a16 a17 a18 a19 a20 a21 a22) = true ↔ TruthOk a0 a3 a4 a5 a6 a7 a8 a9 a10 a11 a12 a13 a14 a15 a16 a17 a18 a19 a20 a21 a22) := by
  refine flat_val (E := fun v => v = true ↔ TruthOk a0 a3 a4 a5 a6 a7 a8 a9 a10 a11 a12 a13 a14 a15 a16 a17 a18 a19 a20 a21 a22) (fun _ => rfl) ?_
  show DD.sat _ _ (wit_D0 a0 a1 a2 a3 a4 a5 a6 a7 a8 a9 a10 a11 a12 a13 a14 a15 a16 a17 a18 a19 a20 a21 a22)
  unfold wit_D0 TruthOk
  have e1 : Ar.run .sub .i64 (a0 : Int) 1 = a0 - 1 := arSub (by omega)
  simp only [DD.sat, e1, cmGtr, cmGtrF, cmLss, cmLssF, cmLeq, cmLeqF, Bool.false_eq_true, true_iff, false_iff]
  repeat' (first | intro _ | apply And.intro)
  all_goals omega
theorem rof_val (hn : a0 ≤ 10000) : AF.fin (rofA a0 a1 a2 a3 a4 a5 a6 a7 a8 a9 a10 a11 a12 a13 a14 a15 a16 a17 a18 a19 a20 a21 a22) = true ∧ (AF.val (rofA a0 a1 a2 a3 a4 a5 a6 a7 a8 a9 a10 a11 a12 a13 a14 a15 a16 a17 a18 a19 a20 a21 a22) = true ↔ TruthOk a0 a3 a4 a5 a6 a7 a8 a9 a10 a11 a12 a13 a14 a15 a16 a17 a18 a19 a20 a21 a22) := by
  refine flat_val (E := fun v => v = true ↔ TruthOk a0 a3 a4 a5 a6 a7 a8 a9 a10 a11 a12 a13 a14 a15 a16 a17 a18 a19 a20 a21 a22) (fun _ => rfl) ?_
  show DD.sat _ _ (rofD0 a0 a1 a2 a3 a4 a5 a6 a7 a8 a9 a10 a11 a12 a13 a14 a15 a16 a17 a18 a19 a20 a21 a22)
  unfold rofD0 TruthOk
  have e1 : Ar.run .sub .i64 (a0 : Int) 1 = a0 - 1 := arSub (by omega)
  simp only [DD.sat, e1, cmGeq, cmGeqF, cmLeq, cmLeqF, Bool.false_eq_true, true_iff, false_iff]
  repeat' (first | intro _ | apply And.intro)
  all_goals omega

/-- What wires add, in parts; within bounds. -/
def liftP (F H S P : Int) : Int := F * S - 4 * H * P
theorem lift_rng {F H S P : Int} (hA : AngOk F H) (hS : 0 ≤ S ∧ S ≤ 400000) (hP : 0 ≤ P ∧ P ≤ 200000) : (0 ≤ F * S ∧ F * S ≤ 8000000000) ∧ (0 ≤ 4 * H ∧ 4 * H ≤ 80000) ∧ (0 ≤ 4 * H * P ∧ 4 * H * P ≤ 16000000000) := by
  obtain ⟨q1, q2, q3, q4⟩ := hA
  refine ⟨⟨Int.mul_nonneg (by omega) hS.1, ?_⟩, ⟨by omega, by omega⟩, Int.mul_nonneg (by omega) hP.1, ?_⟩
  · calc F * S ≤ 20000 * S := Int.mul_le_mul_of_nonneg_right q2 hS.1
      _ ≤ 8000000000 := by omega
  · calc 4 * H * P ≤ 80000 * P := Int.mul_le_mul_of_nonneg_right (by omega) hP.1
      _ ≤ 16000000000 := by omega
theorem ar_lift {F H P w1 w2 w3 : Int} (hA : AngOk F H) (h1 : 0 ≤ w1 ∧ w1 ≤ 100000) (h2 : 0 ≤ w2 ∧ w2 ≤ 100000) (h3 : 0 ≤ w3 ∧ w3 ≤ 100000) (hP : 0 ≤ P ∧ P ≤ 200000) :
    Ar.run .sub .i64 (Ar.run .mul .i64 F (Ar.run .add .i64 (Ar.run .add .i64 w1 w2) (Ar.run .mul .i64 2 w3))) (Ar.run .mul .i64 (Ar.run .mul .i64 4 H) P) = liftP F H (w1 + w2 + 2 * w3) P := by
  obtain ⟨r1, r2, r3⟩ := lift_rng (S := w1 + w2 + 2 * w3) hA (by omega) hP
  rw [arMul (a := 2) (b := w3) (by omega), arAdd (a := w1) (b := w2) (by omega), arAdd (a := w1 + w2) (b := 2 * w3) (by omega), arMul (a := 4) (b := H) (by omega), arMul (a := F) (by omega), arMul (a := 4 * H) (b := P) (by omega), arSub (by omega)]
  rfl
theorem liftP_rng {F H S P : Int} (hA : AngOk F H) (hS : 0 ≤ S ∧ S ≤ 400000) (hP : 0 ≤ P ∧ P ≤ 200000) : -16000000000 ≤ liftP F H S P ∧ liftP F H S P ≤ 8000000000 := by
  obtain ⟨r1, r2, r3⟩ := lift_rng hA hS hP
  unfold liftP
  omega
theorem liftP_mono {F H S S' P P' : Int} (hA : AngOk F H) (hS : S ≤ S') (hP : P' ≤ P) : liftP F H S P ≤ liftP F H S' P' := by
  obtain ⟨q1, q2, q3, q4⟩ := hA
  have h1 : F * S ≤ F * S' := Int.mul_le_mul_of_nonneg_left hS (by omega)
  have h2 : 4 * H * P' ≤ 4 * H * P := Int.mul_le_mul_of_nonneg_left hP (by omega)
  unfold liftP
  omega

/-- What is shown in a truth. -/
def shownV (a1 a2 : Nat → Int) (a15 a16 a17 a18 a19 a20 a21 a22 : Int) : Int := a15 + liftP (a1 a16.toNat) (a2 a16.toNat) (a18 + a19 + 2 * a20) a17 / 4000 - a21 + a22

theorem wsh_val (hn : a0 ≤ 10000) : AF.fin (wshA a0 a1 a2 a3 a4 a5 a6 a7 a8 a9 a10 a11 a12 a13 a14 a15 a16 a17 a18 a19 a20 a21 a22) = true ∧
    ∃ e, ChkV a0 1 (RulOk a0 a1 a2 a3 a4 a5 a6 a7 a8 ∧ TriOk a9 a10 a11 a12 a13 a14) e ∧ (e ≠ 0 ∧ AF.val (wshA a0 a1 a2 a3 a4 a5 a6 a7 a8 a9 a10 a11 a12 a13 a14 a15 a16 a17 a18 a19 a20 a21 a22) = (0, e) ∨
      e = 0 ∧ (¬ TruthOk a0 a3 a4 a5 a6 a7 a8 a9 a10 a11 a12 a13 a14 a15 a16 a17 a18 a19 a20 a21 a22 ∧ AF.val (wshA a0 a1 a2 a3 a4 a5 a6 a7 a8 a9 a10 a11 a12 a13 a14 a15 a16 a17 a18 a19 a20 a21 a22) = (0, 2) ∨
        TruthOk a0 a3 a4 a5 a6 a7 a8 a9 a10 a11 a12 a13 a14 a15 a16 a17 a18 a19 a20 a21 a22 ∧ AF.val (wshA a0 a1 a2 a3 a4 a5 a6 a7 a8 a9 a10 a11 a12 a13 a14 a15 a16 a17 a18 a19 a20 a21 a22) = (shownV a1 a2 a15 a16 a17 a18 a19 a20 a21 a22, 0))) := by
  have hC := wch_val (a0 := a0) (a1 := a1) (a2 := a2) (a3 := a3) (a4 := a4) (a5 := a5) (a6 := a6) (a7 := a7) (a8 := a8) (a9 := 1) (a10 := fun i => List.getD [a9] i 0) (a11 := fun i => List.getD [a10] i 0) (a12 := fun i => List.getD [a11] i 0) (a13 := fun i => List.getD [a12] i 0) (a14 := fun i => List.getD [a13] i 0) (a15 := fun i => List.getD [a14] i 0) hn (by omega)
  have hT := wst_val (a1 := a1) (a2 := a2) (a3 := a3) (a4 := a4) (a5 := a5) (a6 := a6) (a7 := a7) (a8 := a8) (a9 := a9) (a10 := a10) (a11 := a11) (a12 := a12) (a13 := a13) (a14 := a14) (a15 := a15) (a16 := a16) (a17 := a17) (a18 := a18) (a19 := a19) (a20 := a20) (a21 := a21) (a22 := a22) hn
  have e0 : SetsOk 1 (fun i => List.getD [a9] i 0) (fun i => List.getD [a10] i 0) (fun i => List.getD [a11] i 0) (fun i => List.getD [a12] i 0) (fun i => List.getD [a13] i 0) (fun i => List.getD [a14] i 0) ↔ TriOk a9 a10 a11 a12 a13 a14 := all1
  rw [e0] at hC
  refine flat_val (E := fun v => ∃ e, ChkV a0 1 (RulOk a0 a1 a2 a3 a4 a5 a6 a7 a8 ∧ TriOk a9 a10 a11 a12 a13 a14) e ∧ (e ≠ 0 ∧ v = (0, e) ∨
      e = 0 ∧ (¬ TruthOk a0 a3 a4 a5 a6 a7 a8 a9 a10 a11 a12 a13 a14 a15 a16 a17 a18 a19 a20 a21 a22 ∧ v = (0, 2) ∨
        TruthOk a0 a3 a4 a5 a6 a7 a8 a9 a10 a11 a12 a13 a14 a15 a16 a17 a18 a19 a20 a21 a22 ∧ v = (shownV a1 a2 a15 a16 a17 a18 a19 a20 a21 a22, 0)))) (fun _ => rfl) ?_
  show DD.sat _ _ (wshD0 a0 a1 a2 a3 a4 a5 a6 a7 a8 a9 a10 a11 a12 a13 a14 a15 a16 a17 a18 a19 a20 a21 a22)
  unfold wshD0
  simp only [DD.sat, Nat.zero_add, cmNeq, cmNeqF, decide_eq_true_eq, Bool.not_eq_true', Bool.not_eq_false']
  refine ⟨Nat.le_refl _, shape_ok fun i _ => rfl, hC.1, fun h => ⟨_, hC.2, .inl ⟨h, rfl⟩⟩, fun h => ⟨Nat.le_refl _, shape_ok fun i _ => rfl, hT.1, fun hv => ?_, fun hv => ?_⟩⟩
  · exact ⟨_, hC.2, .inr ⟨h, .inl ⟨fun q => (by rw [hT.2.2 q] at hv; cases hv), trivial⟩⟩⟩
  · have tr := hT.2.1 hv
    have hV : RulOk a0 a1 a2 a3 a4 a5 a6 a7 a8 ∧ TriOk a9 a10 a11 a12 a13 a14 := by
      rcases hC.2 with ⟨_, q⟩ | ⟨_, ⟨q, _⟩ | ⟨_, q⟩⟩
      · exact absurd (h.symm.trans q) (by decide)
      · exact q
      · exact absurd (h.symm.trans q) (by decide)
    have fin : ∀ v : Int, v = shownV a1 a2 a15 a16 a17 a18 a19 a20 a21 a22 → ∃ e, ChkV a0 1 (RulOk a0 a1 a2 a3 a4 a5 a6 a7 a8 ∧ TriOk a9 a10 a11 a12 a13 a14) e ∧ (e ≠ 0 ∧ (v, (0 : Int)) = (0, e) ∨
      e = 0 ∧ (¬ TruthOk a0 a3 a4 a5 a6 a7 a8 a9 a10 a11 a12 a13 a14 a15 a16 a17 a18 a19 a20 a21 a22 ∧ (v, (0 : Int)) = (0, 2) ∨
        TruthOk a0 a3 a4 a5 a6 a7 a8 a9 a10 a11 a12 a13 a14 a15 a16 a17 a18 a19 a20 a21 a22 ∧ (v, (0 : Int)) = (shownV a1 a2 a15 a16 a17 a18 a19 a20 a21 a22, 0))) := by
      rintro v rfl
      exact ⟨_, hC.2, .inr ⟨h, .inr ⟨tr, rfl⟩⟩⟩
    obtain ⟨t1, t2, t3, t4, t5, t6, t7, t8⟩ := tr
    obtain ⟨⟨_, hA, s1, s2, s3⟩, u1, u2, u3⟩ := hV
    unfold SpOk at s1 s2 s3 u1 u2 u3
    have hAng := hA a16.toNat (by omega)
    have eL := ar_lift (P := a17) hAng (w1 := a18) (w2 := a19) (w3 := a20) (by omega) (by omega) (by omega) (by omega)
    have rL := liftP_rng hAng (S := a18 + a19 + 2 * a20) (P := a17) (by omega) (by omega)
    simp only [eL, cmGtr, cmGtrF]
    have eS : shownV a1 a2 a15 a16 a17 a18 a19 a20 a21 a22 = a15 + liftP (a1 a16.toNat) (a2 a16.toNat) (a18 + a19 + 2 * a20) a17 / 4000 - a21 + a22 := rfl
    generalize shownV a1 a2 a15 a16 a17 a18 a19 a20 a21 a22 = sv at fin eS ⊢
    generalize liftP (a1 a16.toNat) (a2 a16.toNat) (a18 + a19 + 2 * a20) a17 = L at rL eS ⊢
    rw [arSub (a := 0) (b := L) (by omega)]
    have d := td4 (0 - L)
    have er : Ar.run .rem .i64 (0 - L) 4000 = (0 - L).tmod 4000 := rfl
    have eq : Ar.run .quo .i64 (0 - L) 4000 = (0 - L).tdiv 4000 := arQuo (by omega)
    rw [er, eq]
    generalize (0 - L).tmod 4000 = r at d
    generalize (0 - L).tdiv 4000 = q at d
    refine ⟨t4.1, t4.2, by omega, fun hr => fin _ ?_, fun hr => fin _ ?_⟩
    · rw [arAdd (a := q) (b := 1) (by omega), arSub (a := 0) (b := q + 1) (by omega), arAdd (a := a15) (by omega), arSub (b := a21) (by omega), arAdd (b := a22) (by omega)]
      omega
    · rw [arSub (a := 0) (b := q) (by omega), arAdd (a := a15) (by omega), arSub (b := a21) (by omega), arAdd (b := a22) (by omega)]
      omega

theorem rva_val {z p w1 w2 w3 pr er : Int} (hA : AngsOk a0 a1 a2) (hz : -20000000 ≤ z ∧ z ≤ 20000000) (hx : 0 ≤ a16 ∧ a16 < a0) (h1 : 0 ≤ w1 ∧ w1 ≤ 100000) (h2 : 0 ≤ w2 ∧ w2 ≤ 100000) (h3 : 0 ≤ w3 ∧ w3 ≤ 100000) (hP : 0 ≤ p ∧ p ≤ 200000) (hr : 0 ≤ pr ∧ pr ≤ 1000) (he : -1000 ≤ er ∧ er ≤ 1000) :
    AF.fin (rvaA a0 a1 a2 a3 a4 a5 a6 a7 a8 z a16 p w1 w2 w3 pr er) = true ∧ AF.val (rvaA a0 a1 a2 a3 a4 a5 a6 a7 a8 z a16 p w1 w2 w3 pr er) = 4000 * (z - pr + er) + liftP (a1 a16.toNat) (a2 a16.toNat) (w1 + w2 + 2 * w3) p := by
  refine flat_val (E := fun v => v = 4000 * (z - pr + er) + liftP (a1 a16.toNat) (a2 a16.toNat) (w1 + w2 + 2 * w3) p) (fun _ => rfl) ?_
  show DD.sat _ _ (rvaD0 a0 a1 a2 a3 a4 a5 a6 a7 a8 z a16 p w1 w2 w3 pr er)
  unfold rvaD0
  have hAng := hA a16.toNat (by omega)
  obtain ⟨r1, r2, r3⟩ := lift_rng hAng (S := w1 + w2 + 2 * w3) (P := p) (by omega) (by omega)
  simp only [DD.sat, Nat.zero_add, decide_eq_true_eq]
  refine ⟨hx.1, hx.2, by omega, ?_⟩
  rw [arSub (a := z) (b := pr) (by omega), arAdd (a := z - pr) (b := er) (by omega), arMul (a := 4000) (by omega), arMul (a := 2) (b := w3) (by omega), arAdd (a := w1) (b := w2) (by omega), arAdd (a := w1 + w2) (b := 2 * w3) (by omega), arMul (a := 4) (by omega), arMul (a := a1 a16.toNat) (by omega), arMul (a := 4 * a2 a16.toNat) (b := p) (by omega), arAdd (a := 4000 * (z - pr + er)) (by omega), arSub (by omega)]
  unfold liftP
  omega

theorem rsh_val (hR : RulOk a0 a1 a2 a3 a4 a5 a6 a7 a8) (hS : TriOk a9 a10 a11 a12 a13 a14) (hT : TruthOk a0 a3 a4 a5 a6 a7 a8 a9 a10 a11 a12 a13 a14 a15 a16 a17 a18 a19 a20 a21 a22) :
    AF.fin (rshA a0 a1 a2 a3 a4 a5 a6 a7 a8 a15 a16 a17 a18 a19 a20 a21 a22) = true ∧ AF.val (rshA a0 a1 a2 a3 a4 a5 a6 a7 a8 a15 a16 a17 a18 a19 a20 a21 a22) = shownV a1 a2 a15 a16 a17 a18 a19 a20 a21 a22 := by
  obtain ⟨t1, t2, t3, t4, t5, t6, t7, t8⟩ := hT
  obtain ⟨_, hA, s1, s2, s3⟩ := hR
  obtain ⟨u1, u2, u3⟩ := hS
  unfold SpOk at s1 s2 s3 u1 u2 u3
  have hV := rva_val (a3 := a3) (a4 := a4) (a5 := a5) (a6 := a6) (a7 := a7) (a8 := a8) hA (z := a15) (a16 := a16) (p := a17) (w1 := a18) (w2 := a19) (w3 := a20) (pr := a21) (er := a22) t5 t4 (by omega) (by omega) (by omega) (by omega) (by omega) (by omega)
  refine flat_val (E := fun v => v = shownV a1 a2 a15 a16 a17 a18 a19 a20 a21 a22) (fun _ => rfl) ?_
  show DD.sat _ _ (rshD0 a0 a1 a2 a3 a4 a5 a6 a7 a8 a15 a16 a17 a18 a19 a20 a21 a22)
  unfold rshD0
  have rL := liftP_rng (hA a16.toNat (by omega)) (S := a18 + a19 + 2 * a20) (P := a17) (by omega) (by omega)
  have hV2 : AF.val (rvaA a0 (fun i => a1 i) (fun i => a2 i) a3 a4 a5 a6 a7 a8 a15 a16 a17 a18 a19 a20 a21 a22) = _ := hV.2
  simp only [DD.sat, Nat.zero_add, decide_eq_true_eq, hV2, cmGtr, cmGtrF]
  unfold shownV
  generalize liftP (a1 a16.toNat) (a2 a16.toNat) (a18 + a19 + 2 * a20) a17 = L at rL
  have d := td4 (4000 * (a15 - a21 + a22) + L)
  rw [arQuo (a := 4000 * (a15 - a21 + a22) + L) (b := 4000) (by omega)]
  generalize (4000 * (a15 - a21 + a22) + L).tmod 4000 = r at d
  generalize (4000 * (a15 - a21 + a22) + L).tdiv 4000 = q at d
  rw [arMul (a := q) (b := 4000) (by omega)]
  refine ⟨Nat.le_refl _, shape_ok fun i _ => rfl, hV.1, fun h => ?_, fun h => ?_⟩
  · rw [arSub (by omega)]; omega
  · omega
end
end Go.Proofs.YthhceoendicboaaGreat.Cx

/- Contract of exact.AllFrom: whether all numbers of a list lie within two bounds. -/
namespace Go.Proofs.YthhceoendicboaaGreat
open Go.RowKit

/-- The cells of a list of integers in memory. -/
def Ints (w : World) (b off : Nat) (zs : List Int) : Prop := ∀ i, i < zs.length → w.cell? ⟨b, off + i, none⟩ = some (.int .i64 (zs[i]?.getD 0))

def inB (lo hi z : Int) : Bool := decide (lo ≤ z ∧ z ≤ hi)
theorem outB_eq (lo hi z : Int) : outB lo hi z = !inB lo hi z := rfl

/-- The first place of a number that lies outside, or -1. -/
def IdxPost (lo hi : Int) (zs : List Int) (w : World) (e : Ending) (w' : World) : Prop := ∃ r : Int, e = .returned (.int .i64 r) ∧ (if zs.all (inB lo hi) = true then r = -1 else 0 ≤ r) ∧ w = w'

set_option maxHeartbeats 400000 in
theorem index_any (lo hi : Int) (p q b off cap : Nat) (zs : List Int) (w : World) (h1 : w.cell? ⟨p, 0, none⟩ = some (.int .i64 lo)) (h2 : w.cell? ⟨q, 0, none⟩ = some (.int .i64 hi))
    (hz : Ints w b off zs) (hl : zs.length ≤ 9223372036854775807) :
    Calls Tryz.prog 93 #[.slice (some ⟨b, off, none⟩) zs.length cap, .func (.func 71) #[] #[.pointer (some ⟨p, 0, none⟩), .pointer (some ⟨q, 0, none⟩)]] w (IdxPost lo hi zs w) := by
  have H1 := Lib.hid h1
  have H2 := Lib.hid h2
  have HZ := Lib.hid hz
  clear h1 h2 hz
  go_enter Tryz.func93, Tryz.ntmps93
  go_wp2
  go_loop [5, 8] (fun _ i => ∃ k : Nat, k ≤ zs.length ∧ i = .int .i64 k ∧ Hid (∀ j, j < k → inB lo hi (zs[j]?.getD 0) = true)) (fun _ i => zs.length - (intOf i).toNat)
  case atStart => exact ⟨0, Nat.zero_le _, rfl, fun j hj => absurd hj (by omega)⟩
  case round =>
    obtain ⟨k, hk, rfl, hin⟩ := hrel
    by_cases hlt : k < zs.length
    · have hc0 := HZ.out k hlt
      obtain ⟨z, hz⟩ : ∃ z, zs[k]?.getD 0 = z := ⟨_, rfl⟩
      have hc : w.cell? ⟨b, off + k, none⟩ = some (.int .i64 z) := by rw [← hz]; exact hc0
      clear hc0
      have HE := Lib.hid hz
      clear hz
      by_cases hi1 : inB lo hi z = true
      · have ho : outB lo hi z = false := by rw [outB_eq, hi1]; rfl
        have HI := Lib.hid hi1
        clear hi1
        go_wp2_with fail
        refine (out_any z lo hi p q _ H1.out H2.out).mono ?_
        rintro e w' ⟨rfl, rfl⟩
        go_wp2
        go_round
        case rel => exact ⟨k + 1, by omega, by go_num, fun j hj => by
          by_cases e : j = k
          · subst e; rw [HE.out]; exact HI.out
          · exact hin.out j (by omega)⟩
        case measure => simp [intOf]; omega
      · have ho : outB lo hi z = true := by rw [outB_eq]; simpa using hi1
        have HI := Lib.hid hi1
        clear hi1
        go_wp2_with fail
        refine (out_any z lo hi p q _ H1.out H2.out).mono ?_
        rintro e w' ⟨rfl, rfl⟩
        go_wp2
        go_returns
        refine ⟨k, rfl, ?_, rfl⟩
        rw [if_neg]
        · omega
        · rw [List.all_eq_true]
          intro h
          have hm : z ∈ zs := by rw [← HE.out, List.getElem?_eq_getElem hlt]; exact List.getElem_mem hlt
          exact HI.out (h z hm)
    · have hk' : k = zs.length := by omega
      have HK := Lib.hid hk'
      clear hk'
      go_wp2
      go_returns
      refine ⟨-1, rfl, ?_, rfl⟩
      rw [if_pos]
      rw [List.all_eq_true]
      intro x hx
      obtain ⟨j, hj, rfl⟩ := List.getElem_of_mem hx
      have := hin.out j (by have := HK.out; omega)
      rwa [List.getElem?_eq_getElem hj] at this

set_option maxHeartbeats 400000 in
theorem contains_any (lo hi : Int) (p q b off cap : Nat) (zs : List Int) (w : World) (h1 : w.cell? ⟨p, 0, none⟩ = some (.int .i64 lo)) (h2 : w.cell? ⟨q, 0, none⟩ = some (.int .i64 hi))
    (hz : Ints w b off zs) (hl : zs.length ≤ 9223372036854775807) :
    Calls Tryz.prog 72 #[.slice (some ⟨b, off, none⟩) zs.length cap, .func (.func 71) #[] #[.pointer (some ⟨p, 0, none⟩), .pointer (some ⟨q, 0, none⟩)]] w fun e w' => e = .returned (.bool (!zs.all (inB lo hi))) ∧ w = w' := by
  have H := Lib.hid (index_any lo hi p q b off cap zs w h1 h2 hz hl)
  clear h1 h2 hz
  by_cases ha : zs.all (inB lo hi) = true
  · have HA := Lib.hid ha
    clear ha
    go_enter Tryz.func72, Tryz.ntmps72
    go_wp2_with fail
    refine H.out.mono ?_
    rintro e w' ⟨r, rfl, hr, rfl⟩
    rw [if_pos HA.out] at hr
    subst hr
    go_wp2
    go_returns
    exact ⟨ret_bool (by rw [HA.out]; rfl), rfl⟩
  · have HA := Lib.hid ha
    clear ha
    go_enter Tryz.func72, Tryz.ntmps72
    go_wp2_with fail
    refine H.out.mono ?_
    rintro e w' ⟨r, rfl, hr, rfl⟩
    rw [if_neg HA.out] at hr
    go_wp2
    go_returns
    exact ⟨ret_bool (by have := HA.out; revert this; cases zs.all (inB lo hi) <;> simp), rfl⟩

/-- Whether all numbers of a list lie within two bounds. -/
def allB (lo hi : Int) (zs : List Int) : Bool := zs.all (inB lo hi)

theorem Ints.below {w w' : World} {b off : Nat} {zs : List Int} (h : Ints w b off zs) (hb : Below w.heap.size w w') (hlt : b < w.heap.size) : Ints w' b off zs :=
  fun i hi => (hb.cell (p := ⟨b, off + i, none⟩) hlt).trans (h i hi)

set_option maxHeartbeats 400000 in
theorem allFrom_any (lo hi : Int) (b off cap : Nat) (zs : List Int) (w : World) (hb : b < w.heap.size)
    (hz : Ints w b off zs) (hl : zs.length ≤ 9223372036854775807) :
    Calls Tryz.prog 46 #[.int .i64 lo, .int .i64 hi, .slice (some ⟨b, off, none⟩) zs.length cap] w fun e w' => e = .returned (.bool (allB lo hi zs)) ∧ Below w.heap.size w w' := by
  have HZ := Lib.hid hz
  clear hz
  go_enter Tryz.func46, Tryz.ntmps46
  go_wp2_with fail
  refine (contains_any lo hi _ _ b off cap zs _ (by go_cell) (by go_cell) ?_ hl).mono ?_
  · exact HZ.out.below (by go_grown) hb
  rintro e w' ⟨rfl, rfl⟩
  go_wp2
  go_returns
  exact ⟨ret_bool (by simp [allB]), by go_grown⟩

theorem allFrom1 (lo hi x : Int) (b cap : Nat) (w : World) (hb : b < w.heap.size) (h0 : w.cell? ⟨b, 0, none⟩ = some (.int .i64 x)) :
    Calls Tryz.prog 46 #[.int .i64 lo, .int .i64 hi, .slice (some ⟨b, 0, none⟩) 1 cap] w fun e w' => e = .returned (.bool (allB lo hi [x])) ∧ Below w.heap.size w w' :=
  allFrom_any lo hi b 0 cap [x] w hb (fun i hi => by
    have : i = 0 := by simp at hi; omega
    subst this; exact h0) (by simp)

theorem allFrom2 (lo hi x y : Int) (b cap : Nat) (w : World) (hb : b < w.heap.size) (h0 : w.cell? ⟨b, 0, none⟩ = some (.int .i64 x)) (h1 : w.cell? ⟨b, 1, none⟩ = some (.int .i64 y)) :
    Calls Tryz.prog 46 #[.int .i64 lo, .int .i64 hi, .slice (some ⟨b, 0, none⟩) 2 cap] w fun e w' => e = .returned (.bool (allB lo hi [x, y])) ∧ Below w.heap.size w w' :=
  allFrom_any lo hi b 0 cap [x, y] w hb (fun i hi => by
    have : i = 0 ∨ i = 1 := by simp at hi; omega
    rcases this with rfl | rfl
    · exact h0
    · exact h1) (by simp)

theorem allFrom3 (lo hi x y z : Int) (b cap : Nat) (w : World) (hb : b < w.heap.size) (h0 : w.cell? ⟨b, 0, none⟩ = some (.int .i64 x)) (h1 : w.cell? ⟨b, 1, none⟩ = some (.int .i64 y)) (h2 : w.cell? ⟨b, 2, none⟩ = some (.int .i64 z)) :
    Calls Tryz.prog 46 #[.int .i64 lo, .int .i64 hi, .slice (some ⟨b, 0, none⟩) 3 cap] w fun e w' => e = .returned (.bool (allB lo hi [x, y, z])) ∧ Below w.heap.size w w' :=
  allFrom_any lo hi b 0 cap [x, y, z] w hb (fun i hi => by
    have : i = 0 ∨ i = 1 ∨ i = 2 := by simp at hi; omega
    rcases this with rfl | rfl | rfl
    · exact h0
    · exact h1
    · exact h2) (by simp)
end Go.Proofs.YthhceoendicboaaGreat

/- Contracts of thread.Check, shapeOf and what they call: whether a form is valid, and its shape. -/
namespace Go.Proofs.YthhceoendicboaaGreat
open Go.RowKit

/-- A form, as values: pitch, leans, above, below, starts, hand, taper. -/
structure Form where
  p : Int
  l : Int
  r : Int
  a : Int
  b : Int
  s : Int
  h : Bool
  t : Int

def Form.cells (f : Form) : Array Value := #[.int .i64 f.p, .int .i64 f.l, .int .i64 f.r, .int .i64 f.a, .int .i64 f.b, .int .i64 f.s, .bool f.h, .int .i64 f.t]

def limB (f : Form) : Bool := allB 100 200000 [f.p] && allB 0 3000 [f.l, f.r] && allB 0 200000 [f.a, f.b] && allB 1 8 [f.s] && allB 0 100 [f.t]

set_option maxHeartbeats 1000000 in
theorem inLimits_0 (p l r a b s t : Int) (h : Bool) (w : World) (h1 : allB 100 200000 [p] = false) :
    Calls Tryz.prog 69 #[.agg #[.int .i64 p, .int .i64 l, .int .i64 r, .int .i64 a, .int .i64 b, .int .i64 s, .bool h, .int .i64 t]] w fun e w' => e = .returned (.bool false) ∧ Below w.heap.size w w' := by
    go_enter Tryz.func69, Tryz.ntmps69
    go_wp2_with fail
    refine (allFrom1 _ _ p _ _ _ (by simp) (by go_cell)).mono ?_
    rintro e w1 ⟨rfl, hb1⟩
    have B1 : Box w1 w.heap.size #[.int .i64 p, .int .i64 l, .int .i64 r, .int .i64 a, .int .i64 b, .int .i64 s, .bool h, .int .i64 t] := (Box.alloc (Box.new w _ _) _).below hb1
    have c1 := B1.2.1
    have hB1 : Below w.heap.size w w1 := Below.trans (by go_grown) (hb1.mono (by go_size))
    have hz1 : w.heap.size < w1.heap.size := B1.1
    clear hb1
    go_wp2
    go_returns
    exact ⟨rfl, by go_grown⟩

set_option maxHeartbeats 1000000 in
theorem inLimits_1 (p l r a b s t : Int) (h : Bool) (w : World) (h1 : allB 100 200000 [p] = true) (h2 : allB 0 3000 [l, r] = false) :
    Calls Tryz.prog 69 #[.agg #[.int .i64 p, .int .i64 l, .int .i64 r, .int .i64 a, .int .i64 b, .int .i64 s, .bool h, .int .i64 t]] w fun e w' => e = .returned (.bool false) ∧ Below w.heap.size w w' := by
    go_enter Tryz.func69, Tryz.ntmps69
    go_wp2_with fail
    refine (allFrom1 _ _ p _ _ _ (by simp) (by go_cell)).mono ?_
    rintro e w1 ⟨rfl, hb1⟩
    have B1 : Box w1 w.heap.size #[.int .i64 p, .int .i64 l, .int .i64 r, .int .i64 a, .int .i64 b, .int .i64 s, .bool h, .int .i64 t] := (Box.alloc (Box.new w _ _) _).below hb1
    have c1 := B1.2.1
    have hB1 : Below w.heap.size w w1 := Below.trans (by go_grown) (hb1.mono (by go_size))
    have hz1 : w.heap.size < w1.heap.size := B1.1
    clear hb1
    go_wp2_with fail
    refine (allFrom2 _ _ l r _ _ _ (by simp) (by go_cell) (by go_cell)).mono ?_
    rintro e w2 ⟨rfl, hb2⟩
    have B2 : Box w2 w.heap.size #[.int .i64 p, .int .i64 l, .int .i64 r, .int .i64 a, .int .i64 b, .int .i64 s, .bool h, .int .i64 t] := (Box.alloc B1 _).below hb2
    have c2 := B2.2.1
    have hB2 : Below w.heap.size w w2 := Below.trans (by go_grown) (hb2.mono (by go_size))
    have hz2 : w.heap.size < w2.heap.size := B2.1
    clear hb2 c1 hB1 hz1
    go_wp2
    go_returns
    exact ⟨rfl, by go_grown⟩

set_option maxHeartbeats 1000000 in
theorem inLimits_2 (p l r a b s t : Int) (h : Bool) (w : World) (h1 : allB 100 200000 [p] = true) (h2 : allB 0 3000 [l, r] = true) (h3 : allB 0 200000 [a, b] = false) :
    Calls Tryz.prog 69 #[.agg #[.int .i64 p, .int .i64 l, .int .i64 r, .int .i64 a, .int .i64 b, .int .i64 s, .bool h, .int .i64 t]] w fun e w' => e = .returned (.bool false) ∧ Below w.heap.size w w' := by
    go_enter Tryz.func69, Tryz.ntmps69
    go_wp2_with fail
    refine (allFrom1 _ _ p _ _ _ (by simp) (by go_cell)).mono ?_
    rintro e w1 ⟨rfl, hb1⟩
    have B1 : Box w1 w.heap.size #[.int .i64 p, .int .i64 l, .int .i64 r, .int .i64 a, .int .i64 b, .int .i64 s, .bool h, .int .i64 t] := (Box.alloc (Box.new w _ _) _).below hb1
    have c1 := B1.2.1
    have hB1 : Below w.heap.size w w1 := Below.trans (by go_grown) (hb1.mono (by go_size))
    have hz1 : w.heap.size < w1.heap.size := B1.1
    clear hb1
    go_wp2_with fail
    refine (allFrom2 _ _ l r _ _ _ (by simp) (by go_cell) (by go_cell)).mono ?_
    rintro e w2 ⟨rfl, hb2⟩
    have B2 : Box w2 w.heap.size #[.int .i64 p, .int .i64 l, .int .i64 r, .int .i64 a, .int .i64 b, .int .i64 s, .bool h, .int .i64 t] := (Box.alloc B1 _).below hb2
    have c2 := B2.2.1
    have hB2 : Below w.heap.size w w2 := Below.trans (by go_grown) (hb2.mono (by go_size))
    have hz2 : w.heap.size < w2.heap.size := B2.1
    clear hb2 c1 hB1 hz1
    go_wp2_with fail
    refine (allFrom2 _ _ a b _ _ _ (by simp) (by go_cell) (by go_cell)).mono ?_
    rintro e w3 ⟨rfl, hb3⟩
    have B3 : Box w3 w.heap.size #[.int .i64 p, .int .i64 l, .int .i64 r, .int .i64 a, .int .i64 b, .int .i64 s, .bool h, .int .i64 t] := (Box.alloc B2 _).below hb3
    have c3 := B3.2.1
    have hB3 : Below w.heap.size w w3 := Below.trans (by go_grown) (hb3.mono (by go_size))
    have hz3 : w.heap.size < w3.heap.size := B3.1
    clear hb3 c2 hB2 hz2
    go_wp2
    go_returns
    exact ⟨rfl, by go_grown⟩

set_option maxHeartbeats 1000000 in
theorem inLimits_3 (p l r a b s t : Int) (h : Bool) (w : World) (h1 : allB 100 200000 [p] = true) (h2 : allB 0 3000 [l, r] = true) (h3 : allB 0 200000 [a, b] = true) (h4 : allB 1 8 [s] = false) :
    Calls Tryz.prog 69 #[.agg #[.int .i64 p, .int .i64 l, .int .i64 r, .int .i64 a, .int .i64 b, .int .i64 s, .bool h, .int .i64 t]] w fun e w' => e = .returned (.bool false) ∧ Below w.heap.size w w' := by
    go_enter Tryz.func69, Tryz.ntmps69
    go_wp2_with fail
    refine (allFrom1 _ _ p _ _ _ (by simp) (by go_cell)).mono ?_
    rintro e w1 ⟨rfl, hb1⟩
    have B1 : Box w1 w.heap.size #[.int .i64 p, .int .i64 l, .int .i64 r, .int .i64 a, .int .i64 b, .int .i64 s, .bool h, .int .i64 t] := (Box.alloc (Box.new w _ _) _).below hb1
    have c1 := B1.2.1
    have hB1 : Below w.heap.size w w1 := Below.trans (by go_grown) (hb1.mono (by go_size))
    have hz1 : w.heap.size < w1.heap.size := B1.1
    clear hb1
    go_wp2_with fail
    refine (allFrom2 _ _ l r _ _ _ (by simp) (by go_cell) (by go_cell)).mono ?_
    rintro e w2 ⟨rfl, hb2⟩
    have B2 : Box w2 w.heap.size #[.int .i64 p, .int .i64 l, .int .i64 r, .int .i64 a, .int .i64 b, .int .i64 s, .bool h, .int .i64 t] := (Box.alloc B1 _).below hb2
    have c2 := B2.2.1
    have hB2 : Below w.heap.size w w2 := Below.trans (by go_grown) (hb2.mono (by go_size))
    have hz2 : w.heap.size < w2.heap.size := B2.1
    clear hb2 c1 hB1 hz1
    go_wp2_with fail
    refine (allFrom2 _ _ a b _ _ _ (by simp) (by go_cell) (by go_cell)).mono ?_
    rintro e w3 ⟨rfl, hb3⟩
    have B3 : Box w3 w.heap.size #[.int .i64 p, .int .i64 l, .int .i64 r, .int .i64 a, .int .i64 b, .int .i64 s, .bool h, .int .i64 t] := (Box.alloc B2 _).below hb3
    have c3 := B3.2.1
    have hB3 : Below w.heap.size w w3 := Below.trans (by go_grown) (hb3.mono (by go_size))
    have hz3 : w.heap.size < w3.heap.size := B3.1
    clear hb3 c2 hB2 hz2
    go_wp2_with fail
    refine (allFrom1 _ _ s _ _ _ (by simp) (by go_cell)).mono ?_
    rintro e w4 ⟨rfl, hb4⟩
    have B4 : Box w4 w.heap.size #[.int .i64 p, .int .i64 l, .int .i64 r, .int .i64 a, .int .i64 b, .int .i64 s, .bool h, .int .i64 t] := (Box.alloc B3 _).below hb4
    have c4 := B4.2.1
    have hB4 : Below w.heap.size w w4 := Below.trans (by go_grown) (hb4.mono (by go_size))
    have hz4 : w.heap.size < w4.heap.size := B4.1
    clear hb4 c3 hB3 hz3
    go_wp2
    go_returns
    exact ⟨rfl, by go_grown⟩

set_option maxHeartbeats 1000000 in
theorem inLimits_4 (p l r a b s t : Int) (h : Bool) (w : World) (h1 : allB 100 200000 [p] = true) (h2 : allB 0 3000 [l, r] = true) (h3 : allB 0 200000 [a, b] = true) (h4 : allB 1 8 [s] = true) (h5 : allB 0 100 [t] = false) :
    Calls Tryz.prog 69 #[.agg #[.int .i64 p, .int .i64 l, .int .i64 r, .int .i64 a, .int .i64 b, .int .i64 s, .bool h, .int .i64 t]] w fun e w' => e = .returned (.bool false) ∧ Below w.heap.size w w' := by
    go_enter Tryz.func69, Tryz.ntmps69
    go_wp2_with fail
    refine (allFrom1 _ _ p _ _ _ (by simp) (by go_cell)).mono ?_
    rintro e w1 ⟨rfl, hb1⟩
    have B1 : Box w1 w.heap.size #[.int .i64 p, .int .i64 l, .int .i64 r, .int .i64 a, .int .i64 b, .int .i64 s, .bool h, .int .i64 t] := (Box.alloc (Box.new w _ _) _).below hb1
    have c1 := B1.2.1
    have hB1 : Below w.heap.size w w1 := Below.trans (by go_grown) (hb1.mono (by go_size))
    have hz1 : w.heap.size < w1.heap.size := B1.1
    clear hb1
    go_wp2_with fail
    refine (allFrom2 _ _ l r _ _ _ (by simp) (by go_cell) (by go_cell)).mono ?_
    rintro e w2 ⟨rfl, hb2⟩
    have B2 : Box w2 w.heap.size #[.int .i64 p, .int .i64 l, .int .i64 r, .int .i64 a, .int .i64 b, .int .i64 s, .bool h, .int .i64 t] := (Box.alloc B1 _).below hb2
    have c2 := B2.2.1
    have hB2 : Below w.heap.size w w2 := Below.trans (by go_grown) (hb2.mono (by go_size))
    have hz2 : w.heap.size < w2.heap.size := B2.1
    clear hb2 c1 hB1 hz1
    go_wp2_with fail
    refine (allFrom2 _ _ a b _ _ _ (by simp) (by go_cell) (by go_cell)).mono ?_
    rintro e w3 ⟨rfl, hb3⟩
    have B3 : Box w3 w.heap.size #[.int .i64 p, .int .i64 l, .int .i64 r, .int .i64 a, .int .i64 b, .int .i64 s, .bool h, .int .i64 t] := (Box.alloc B2 _).below hb3
    have c3 := B3.2.1
    have hB3 : Below w.heap.size w w3 := Below.trans (by go_grown) (hb3.mono (by go_size))
    have hz3 : w.heap.size < w3.heap.size := B3.1
    clear hb3 c2 hB2 hz2
    go_wp2_with fail
    refine (allFrom1 _ _ s _ _ _ (by simp) (by go_cell)).mono ?_
    rintro e w4 ⟨rfl, hb4⟩
    have B4 : Box w4 w.heap.size #[.int .i64 p, .int .i64 l, .int .i64 r, .int .i64 a, .int .i64 b, .int .i64 s, .bool h, .int .i64 t] := (Box.alloc B3 _).below hb4
    have c4 := B4.2.1
    have hB4 : Below w.heap.size w w4 := Below.trans (by go_grown) (hb4.mono (by go_size))
    have hz4 : w.heap.size < w4.heap.size := B4.1
    clear hb4 c3 hB3 hz3
    go_wp2_with fail
    refine (allFrom1 _ _ t _ _ _ (by simp) (by go_cell)).mono ?_
    rintro e w5 ⟨rfl, hb5⟩
    have B5 : Box w5 w.heap.size #[.int .i64 p, .int .i64 l, .int .i64 r, .int .i64 a, .int .i64 b, .int .i64 s, .bool h, .int .i64 t] := (Box.alloc B4 _).below hb5
    have c5 := B5.2.1
    have hB5 : Below w.heap.size w w5 := Below.trans (by go_grown) (hb5.mono (by go_size))
    have hz5 : w.heap.size < w5.heap.size := B5.1
    clear hb5 c4 hB4 hz4
    go_wp2
    go_returns
    exact ⟨rfl, by go_grown⟩

set_option maxHeartbeats 1000000 in
theorem inLimits_5 (p l r a b s t : Int) (h : Bool) (w : World) (h1 : allB 100 200000 [p] = true) (h2 : allB 0 3000 [l, r] = true) (h3 : allB 0 200000 [a, b] = true) (h4 : allB 1 8 [s] = true) (h5 : allB 0 100 [t] = true) :
    Calls Tryz.prog 69 #[.agg #[.int .i64 p, .int .i64 l, .int .i64 r, .int .i64 a, .int .i64 b, .int .i64 s, .bool h, .int .i64 t]] w fun e w' => e = .returned (.bool true) ∧ Below w.heap.size w w' := by
    go_enter Tryz.func69, Tryz.ntmps69
    go_wp2_with fail
    refine (allFrom1 _ _ p _ _ _ (by simp) (by go_cell)).mono ?_
    rintro e w1 ⟨rfl, hb1⟩
    have B1 : Box w1 w.heap.size #[.int .i64 p, .int .i64 l, .int .i64 r, .int .i64 a, .int .i64 b, .int .i64 s, .bool h, .int .i64 t] := (Box.alloc (Box.new w _ _) _).below hb1
    have c1 := B1.2.1
    have hB1 : Below w.heap.size w w1 := Below.trans (by go_grown) (hb1.mono (by go_size))
    have hz1 : w.heap.size < w1.heap.size := B1.1
    clear hb1
    go_wp2_with fail
    refine (allFrom2 _ _ l r _ _ _ (by simp) (by go_cell) (by go_cell)).mono ?_
    rintro e w2 ⟨rfl, hb2⟩
    have B2 : Box w2 w.heap.size #[.int .i64 p, .int .i64 l, .int .i64 r, .int .i64 a, .int .i64 b, .int .i64 s, .bool h, .int .i64 t] := (Box.alloc B1 _).below hb2
    have c2 := B2.2.1
    have hB2 : Below w.heap.size w w2 := Below.trans (by go_grown) (hb2.mono (by go_size))
    have hz2 : w.heap.size < w2.heap.size := B2.1
    clear hb2 c1 hB1 hz1
    go_wp2_with fail
    refine (allFrom2 _ _ a b _ _ _ (by simp) (by go_cell) (by go_cell)).mono ?_
    rintro e w3 ⟨rfl, hb3⟩
    have B3 : Box w3 w.heap.size #[.int .i64 p, .int .i64 l, .int .i64 r, .int .i64 a, .int .i64 b, .int .i64 s, .bool h, .int .i64 t] := (Box.alloc B2 _).below hb3
    have c3 := B3.2.1
    have hB3 : Below w.heap.size w w3 := Below.trans (by go_grown) (hb3.mono (by go_size))
    have hz3 : w.heap.size < w3.heap.size := B3.1
    clear hb3 c2 hB2 hz2
    go_wp2_with fail
    refine (allFrom1 _ _ s _ _ _ (by simp) (by go_cell)).mono ?_
    rintro e w4 ⟨rfl, hb4⟩
    have B4 : Box w4 w.heap.size #[.int .i64 p, .int .i64 l, .int .i64 r, .int .i64 a, .int .i64 b, .int .i64 s, .bool h, .int .i64 t] := (Box.alloc B3 _).below hb4
    have c4 := B4.2.1
    have hB4 : Below w.heap.size w w4 := Below.trans (by go_grown) (hb4.mono (by go_size))
    have hz4 : w.heap.size < w4.heap.size := B4.1
    clear hb4 c3 hB3 hz3
    go_wp2_with fail
    refine (allFrom1 _ _ t _ _ _ (by simp) (by go_cell)).mono ?_
    rintro e w5 ⟨rfl, hb5⟩
    have B5 : Box w5 w.heap.size #[.int .i64 p, .int .i64 l, .int .i64 r, .int .i64 a, .int .i64 b, .int .i64 s, .bool h, .int .i64 t] := (Box.alloc B4 _).below hb5
    have c5 := B5.2.1
    have hB5 : Below w.heap.size w w5 := Below.trans (by go_grown) (hb5.mono (by go_size))
    have hz5 : w.heap.size < w5.heap.size := B5.1
    clear hb5 c4 hB4 hz4
    go_wp2
    go_returns
    exact ⟨rfl, by go_grown⟩

theorem inLimits_any (p l r a b s t : Int) (h : Bool) (w : World) :
    Calls Tryz.prog 69 #[.agg #[.int .i64 p, .int .i64 l, .int .i64 r, .int .i64 a, .int .i64 b, .int .i64 s, .bool h, .int .i64 t]] w fun e w' => e = .returned (.bool (limB ⟨p, l, r, a, b, s, h, t⟩)) ∧ Below w.heap.size w w' := by
  unfold limB
  cases h1 : allB 100 200000 [p]
  · exact inLimits_0 p l r a b s t h w h1
  cases h2 : allB 0 3000 [l, r]
  · exact inLimits_1 p l r a b s t h w h1 h2
  cases h3 : allB 0 200000 [a, b]
  · exact inLimits_2 p l r a b s t h w h1 h2 h3
  cases h4 : allB 1 8 [s]
  · exact inLimits_3 p l r a b s t h w h1 h2 h3 h4
  cases h5 : allB 0 100 [t]
  · exact inLimits_4 p l r a b s t h w h1 h2 h3 h4 h5
  · exact inLimits_5 p l r a b s t h w h1 h2 h3 h4 h5

/-- What the limits of a form say. -/
theorem lim_iff {f : Form} : limB f = true ↔ (100 ≤ f.p ∧ f.p ≤ 200000) ∧ (0 ≤ f.l ∧ f.l ≤ 3000) ∧ (0 ≤ f.r ∧ f.r ≤ 3000) ∧ (0 ≤ f.a ∧ f.a ≤ 200000) ∧ (0 ≤ f.b ∧ f.b ≤ 200000) ∧ (1 ≤ f.s ∧ f.s ≤ 8) ∧ (0 ≤ f.t ∧ f.t ≤ 100) := by
  simp [limB, allB, inB]
  omega

end Go.Proofs.YthhceoendicboaaGreat

/- A region that draws its order, whose first operations read or call in a class of worlds, and whose last ones come in one order: one walk in the order of the text serves all orders. The class may be 'below the heap's old size nothing has turned', so the callees may make memory. -/
namespace Go.Proofs.YthhceoendicboaaGreat
open Go Go.RowKit

section
variable {P : Program} {ops : Array Oper} {md : Region.Mode} {C : World → Prop} {n : Nat} {L : Array Bool → Act → Prop}

/-- As long as f operations are still to come up, each of them is one of the first n, and is quiet in the class; then L. -/
def HeadQ (P : Program) (md : Region.Mode) (ops : Array Oper) (C : World → Prop) (n : Nat) (L : Array Bool → Act → Prop) : Nat → Array Bool → Act → Prop
  | 0, done, a => L done a
  | f + 1, done, a => Region.ready md ops done ≠ [] ∧ ∀ i ∈ Region.ready md ops done, i < n ∧ qOp P ops C i (HeadQ P md ops C n L f (done.setIfInBounds i true)) a

theorem HeadQ.any {g : Nat} {Q' : Exit → Act → World → Prop} (hL : ∀ done a w, C w → L done a → wpAny P md ops Q' g done a w) (f : Nat) :
    ∀ (done : Array Bool) (a : Act) (w : World), C w → HeadQ P md ops C n L f done a → wpAny P md ops Q' (f + g) done a w := by
  induction f with
  | zero => intro done a w hw h; rw [Nat.zero_add]; exact hL done a w hw h
  | succ f ih =>
    intro done a w hw h
    rw [Nat.add_right_comm]
    exact ⟨fun e => (h.1 e).elim, fun i hi => wpOp_of_qOp hw (fun a' w' hw' h' => ih _ a' w' hw' h') (h.2 i hi).2⟩

/-- What may come up now, and is apart from all that does not wait for it, may be taken first. -/
theorem HeadQ.front {i : Nat} {oi : Oper} {v : Value} (hi : ops[i]? = some oi) (hsel : ∀ (j : Nat) (o : Oper) cs b, ops[j]? = some o → o.op ≠ .select cs b)
    (hs : Region.sinkB md ops n = true) (hc : Region.chainB md ops n = true) (hn : n < ops.size) (hin : i < n)
    (hL : ∀ done a, L done a → ∀ j ∈ Region.ready md ops done, n ≤ j) (f : Nat) :
    ∀ (done : Array Bool) (a : Act), HeadInv md ops n done →
      (∀ j oj, ops[j]? = some oj → j ≠ i → done.getD j true = false → (∀ e ∈ oj.after, Region.binds md e = true → e.on ≠ i) → oi.apart ops oj = true) →
      i ∈ Region.ready md ops done → YieldsIn P ops C oi v a →
      HeadQ P md ops C n L f (done.setIfInBounds i true) (a.put oi.dst v) → HeadQ P md ops C n L (f + 1) done a := by
  induction f with
  | zero =>
    intro done a inv _ hr hy H
    have hopen := (mem_ready.1 hr).1
    refine ⟨List.ne_nil_of_mem hr, fun j hj => ?_⟩
    have hjn : j < n := Nat.lt_of_not_le fun h => tail_waits hs hc hn inv _ i rfl hin hopen j h hj
    refine ⟨hjn, ?_⟩
    by_cases e : j = i
    · subst e; exact hy.qOp hi H
    · exact absurd (hL _ _ H j (ready_mono hj e)) (by omega)
  | succ f ih =>
    intro done a inv hfree hr hy H
    have hopen := (mem_ready.1 hr).1
    refine ⟨List.ne_nil_of_mem hr, fun j hj => ?_⟩
    have hjn : j < n := Nat.lt_of_not_le fun h => tail_waits hs hc hn inv _ i rfl hin hopen j h hj
    refine ⟨hjn, ?_⟩
    by_cases e : j = i
    · subst e; exact hy.qOp hi H
    obtain ⟨hjopen, oj, hoj, hwait⟩ := mem_ready.1 hj
    have hno : ∀ x ∈ oj.after, Region.binds md x = true → x.on ≠ i := by
      intro x hx hb hon
      have h1 := hwait x hx hb
      rw [hon, getD_both hopen] at h1
      exact Bool.false_ne_true h1
    have hput := qOp_put hoj (hfree j oj hoj e hjopen hno) (fun cs b => hsel i oi cs b hi) (fun cs b => hsel j oj cs b hoj) hy (H.2 j (ready_mono hj e)).2
    refine qOp_mono ?_ hput
    rintro a' ⟨hy', hK⟩
    refine ih _ a' (inv.set hj hjn) ?_ (ready_mono hr (fun x => e x.symm)) hy' ?_
    · intro k ok hk hki hko hkno
      refine hfree k ok hk hki ?_ hkno
      by_cases ejk : j = k
      · subst ejk; exact hjopen
      · rwa [getD_set_ne true ejk] at hko
    · rw [Array.setIfInBounds_comm _ _ e]
      exact hK

theorem HeadQ.lex {g : Nat} {Lq : Act → Prop} (hsel : Region.noSelect ops = true) (hs : Region.sinkB md ops n = true) (hc : Region.chainB md ops n = true) (hn : n < ops.size) (l : List Oper) :
    ∀ (k : Nat) (done : Array Bool) (a : Act), (∀ j, j < l.length → l[j]? = ops[k + j]?) → k + l.length = n → HeadInv md ops n done →
    Region.lexHead md ops g l.length k done = true → wpQuiet P ops C Lq l a →
    HeadQ P md ops C n (fun done' a' => Region.seqB md ops g n done' = true ∧ Lq a') l.length done a := by
  induction l with
  | nil =>
    intro k done a _ hk _ hB h
    obtain rfl : k = n := by simpa using hk
    exact ⟨by simpa [Region.lexHead] using hB, h⟩
  | cons o l ih =>
    intro k done a hl hk inv hB h
    have h0 : ops[k]? = some o := by simpa using (hl 0 (by simp)).symm
    simp only [List.length_cons, Region.lexHead, Bool.and_eq_true] at hB
    obtain ⟨⟨hr, hf⟩, hB'⟩ := hB
    have hr' : k ∈ Region.ready md ops done := by simpa using hr
    have hlen : k + (l.length + 1) = n := by simpa using hk
    have hq : qOp P ops C k (wpQuiet P ops C Lq l) a := by unfold qOp; simp only [h0]; exact h
    obtain ⟨v, hy, hK⟩ := yieldsIn_of_qOp h0 hq
    refine HeadQ.front h0 (Region.noSelect_spec hsel) hs hc hn (by omega) (fun _ _ hL => seqB_ready hL.1) l.length done a inv (Region.free_spec h0 hf) hr' hy ?_
    refine ih (k + 1) _ _ (fun j hj => ?_) (by omega) (inv.set hr' (by omega)) hB' hK
    have := hl (j + 1) (by simp; omega)
    simpa [Nat.add_assoc, Nat.add_comm 1 j] using this

/-- THE RULE: the first m operations quiet in the class C, then the rest one after another, from each world of the class. -/
theorem wp_region_quiet_tail {id : Nat} {Q : Exit → Act → World → Prop} {a : Act} {w : World} {l : List Oper} (m : Nat) (hm : P.follows .mixedOrders = true) (hB : Region.lexTailB .any l.toArray m = true)
    (hC : C { w with drawn := w.drawn + 1 })
    (h : wpQuiet P l.toArray C (fun a' => ∀ w', C w' → wpList P l.toArray Q (l.drop m) a' w') (l.take m) a) : (Code.region id l.toArray true).wp P Q a w := by
  simp only [Region.lexTailB, Bool.and_eq_true, decide_eq_true_eq] at hB
  obtain ⟨⟨⟨⟨hsel, hn⟩, hs⟩, hc⟩, hlex⟩ := hB
  have hm' : m < l.length := by simpa using hn
  have htl : (l.take m).length = m := by simp; omega
  have inv0 : HeadInv .any l.toArray m (Array.replicate l.toArray.size false) :=
    ⟨by simp, fun j _ _ hl => by rw [getD_replicate_false] at hl; exact absurd hl Bool.false_ne_true, fun t _ ht => getD_in (by simpa using ht) (getD_replicate_false _ _)⟩
  have H := HeadQ.lex (P := P) (C := C) (md := .any) (g := l.toArray.size - m) hsel hs hc hn (l.take m) 0 _ a
    (fun j hj => by rw [htl] at hj; simp [hj]) (by simpa using htl) inv0 (by rw [htl]; exact hlex) h
  refine wp_region_any hm ?_
  have hall := HeadQ.any (Q' := Q) (g := l.toArray.size - m) (fun done a' w' hw' hL => by
    have hseq := wpAny_of_seq (md := .any) (Q' := Q) (l.drop m) m done a' w' (fun j => by simp [List.getElem?_drop]) (by simpa using hL.1) (hL.2 w' hw')
    simpa using hseq) _ _ _ _ hC H
  rw [htl, show m + (l.toArray.size - m) = l.toArray.size by omega] at hall
  exact hall

/-- The class 'below the heap's size nothing has turned'. -/
def InB (w w' : World) : Prop := ∃ p : Regrown, w' = Go.Sort.grow (redrawn w p.d) p.os

theorem InB.start (w : World) : InB w { w with drawn := w.drawn + 1 } := regrown_of_below (Below.refl _ w).drew
end
end Go.Proofs.YthhceoendicboaaGreat

/- Contracts of thread.Check and shapeOf: whether a form is valid, and its shape. -/
namespace Go.Proofs.YthhceoendicboaaGreat
open Go.RowKit

def openB (f : Form) : Bool := decide (max f.a f.b * (f.l + f.r) ≤ 500 * f.p)

set_option maxHeartbeats 1000000 in
theorem staysOpen_any (p l r a b s t : Int) (h : Bool) (w : World) (hl : limB ⟨p, l, r, a, b, s, h, t⟩ = true) :
    Calls Tryz.prog 70 #[.agg #[.int .i64 p, .int .i64 l, .int .i64 r, .int .i64 a, .int .i64 b, .int .i64 s, .bool h, .int .i64 t]] w fun e w' => e = .returned (.bool (openB ⟨p, l, r, a, b, s, h, t⟩)) ∧ Below w.heap.size w w' := by
  obtain ⟨⟨p0, p1⟩, ⟨l0, l1⟩, ⟨r0, r1⟩, ⟨a0, a1⟩, ⟨b0, b1⟩, _, _⟩ := lim_iff.1 hl
  clear hl
  simp only at p0 p1 l0 l1 r0 r1 a0 a1 b0 b1
  have m1 : 0 ≤ a * (l + r) := Int.mul_nonneg a0 (by omega)
  have m2 : a * (l + r) ≤ 200000 * 6000 := Int.mul_le_mul a1 (by omega) (by omega) (by omega)
  have m3 : 0 ≤ b * (l + r) := Int.mul_nonneg b0 (by omega)
  have m4 : b * (l + r) ≤ 200000 * 6000 := Int.mul_le_mul b1 (by omega) (by omega) (by omega)
  rcases Int.le_total b a with hab | hab
  · by_cases hc : a * (l + r) ≤ 500 * p
    · go_enter Tryz.func70, Tryz.ntmps70
      go_wp2
      all_goals go_returns
      all_goals exact ⟨ret_bool (by unfold openB; simp only; rw [Int.max_eq_left hab, decide_eq_true hc]), by go_grown⟩
    · go_enter Tryz.func70, Tryz.ntmps70
      go_wp2
      all_goals go_returns
      all_goals exact ⟨ret_bool (by unfold openB; simp only; rw [Int.max_eq_left hab, decide_eq_false (by omega)]), by go_grown⟩
  · by_cases he : a = b
    · subst he
      by_cases hc : a * (l + r) ≤ 500 * p
      · go_enter Tryz.func70, Tryz.ntmps70
        go_wp2
        all_goals go_returns
        all_goals exact ⟨ret_bool (by unfold openB; simp only; rw [Int.max_eq_left hab, decide_eq_true hc]), by go_grown⟩
      · go_enter Tryz.func70, Tryz.ntmps70
        go_wp2
        all_goals go_returns
        all_goals exact ⟨ret_bool (by unfold openB; simp only; rw [Int.max_eq_left hab, decide_eq_false (by omega)]), by go_grown⟩
    have hlt : ¬ b ≤ a := by omega
    by_cases hc : b * (l + r) ≤ 500 * p
    · go_enter Tryz.func70, Tryz.ntmps70
      go_wp2
      all_goals go_returns
      all_goals exact ⟨ret_bool (by unfold openB; simp only; rw [Int.max_eq_right hab, decide_eq_true hc]), by go_grown⟩
    · go_enter Tryz.func70, Tryz.ntmps70
      go_wp2
      all_goals go_returns
      all_goals exact ⟨ret_bool (by unfold openB; simp only; rw [Int.max_eq_right hab, decide_eq_false (by omega)]), by go_grown⟩

def okB (f : Form) : Bool := limB f && decide (1 ≤ f.a + f.b) && openB f
/-- The error of Check. -/
def errN (f : Form) : Int := if okB f then 0 else 2

def FBox (w : World) (g : Nat) (p l r a b s t : Int) (h : Bool) : Prop := Box w g #[.int .i64 p, .int .i64 l, .int .i64 r, .int .i64 a, .int .i64 b, .int .i64 s, .bool h, .int .i64 t]

set_option maxHeartbeats 1000000 in
theorem check_any (p l r a b s t : Int) (h : Bool) (w : World) :
    Calls Tryz.prog 44 #[.agg #[.int .i64 p, .int .i64 l, .int .i64 r, .int .i64 a, .int .i64 b, .int .i64 s, .bool h, .int .i64 t]] w fun e w' => e = .returned (.int .i64 (errN ⟨p, l, r, a, b, s, h, t⟩)) ∧ Below w.heap.size w w' := by
  cases h1 : limB ⟨p, l, r, a, b, s, h, t⟩
  · have he : errN ⟨p, l, r, a, b, s, h, t⟩ = 2 := by unfold errN okB; rw [h1]; rfl
    go_enter Tryz.func44, Tryz.ntmps44
    go_wp2_with fail
    refine (inLimits_any p l r a b s t h _).mono ?_
    rintro e w1 ⟨rfl, hb1⟩
    have B1 : Box w1 w.heap.size _ := (Box.new w _ _).below hb1
    have c1 := B1.2.1
    have hB1 : Below w.heap.size w w1 := Below.trans (by go_grown) (hb1.mono (by go_size))
    have hz1 := B1.1
    clear hb1
    go_wp2
    go_returns
    exact ⟨ret_int he.symm, by go_grown⟩
  · have hbd := lim_iff.1 h1
    simp only at hbd
    obtain ⟨_, _, _, ⟨a0, a1⟩, ⟨b0, b1⟩, _, _⟩ := hbd
    by_cases h2 : a + b < 1
    · have he : errN ⟨p, l, r, a, b, s, h, t⟩ = 2 := by unfold errN okB; rw [h1]; simp; omega
      go_enter Tryz.func44, Tryz.ntmps44
      go_wp2_with fail
      refine (inLimits_any p l r a b s t h _).mono ?_
      rintro e w1 ⟨rfl, hb1⟩
      have B1 : Box w1 w.heap.size _ := (Box.new w _ _).below hb1
      have c1 := B1.2.1
      have hB1 : Below w.heap.size w w1 := Below.trans (by go_grown) (hb1.mono (by go_size))
      have hz1 := B1.1
      clear hb1
      go_wp2
      go_returns
      exact ⟨ret_int he.symm, by go_grown⟩
    · have HS := Lib.hid (staysOpen_any p l r a b s t h)
      have he : errN ⟨p, l, r, a, b, s, h, t⟩ = if openB ⟨p, l, r, a, b, s, h, t⟩ = true then 0 else 2 := by
        unfold errN okB; rw [h1, decide_eq_true (show 1 ≤ (Form.mk p l r a b s h t).a + (Form.mk p l r a b s h t).b by simp only; omega)]; simp
      cases h3 : openB ⟨p, l, r, a, b, s, h, t⟩
      all_goals
        rw [h3] at he
        simp at he
        go_enter Tryz.func44, Tryz.ntmps44
        go_wp2_with fail
        refine (inLimits_any p l r a b s t h _).mono ?_
        rintro e w1 ⟨rfl, hb1⟩
        have B1 : Box w1 w.heap.size _ := (Box.new w _ _).below hb1
        have c1 := B1.2.1
        have hB1 : Below w.heap.size w w1 := Below.trans (by go_grown) (hb1.mono (by go_size))
        have hz1 := B1.1
        clear hb1
        go_wp2_with fail
        refine (HS.out _ h1).mono ?_
        rintro e w2 ⟨rfl, hb2⟩
        have hB2 : Below w.heap.size w w2 := hB1.trans (hb2.mono (by omega))
        clear hb2
        go_wp2
        go_returns
        exact ⟨ret_int he.symm, by go_grown⟩

/-- A shape's cells: the form, both leans together, how far a whole turn moves a nut, the hand. -/
def shapeV (p l r a b s t : Int) (h : Bool) : Value := .agg #[.int .i64 p, .int .i64 l, .int .i64 r, .int .i64 a, .int .i64 b, .int .i64 s, .bool h, .int .i64 t, .int .i64 (l + r), .int .i64 (p * s), .int .i64 (handN h)]
def shape0 : Value := .agg #[.int .i64 0, .int .i64 0, .int .i64 0, .int .i64 0, .int .i64 0, .int .i64 0, .bool false, .int .i64 0, .int .i64 0, .int .i64 0, .int .i64 0]

/-- A block, in every world of the class. -/
theorem Box.regrown {w : World} {g : Nat} {cs : Array Value} (h : Box w g cs) (d : Nat) (os : Array Obj) : Box (Go.Sort.grow (redrawn w d) os) g cs := h.below (below_regrown w d os)

end Go.Proofs.YthhceoendicboaaGreat
