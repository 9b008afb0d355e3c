/- acme/die.Judge as an automaton. Made by tools/cxauto.py. -/
import Derived.Test.YthagjhadjpangaaPkDJudges6

namespace Go.Proofs.Ythagjhadjpangaa.Cx
set_option linter.unusedVariables false
set_option linter.unusedSimpArgs false
set_option maxRecDepth 100000
open Go Go.Proofs Go.RowKit
noncomputable abbrev djuCode : Code := funcCode Try.f34
inductive djuN where
  | n0 (p0 : Int) (p1 : Bool) (p2 p3 p4 p5 : Int) (p6 p7 : Nat) (p8 : Int)
abbrev djuR := Int × Int
noncomputable def djuD0 (a0 : Bool) (a1 a2 a3 a4 : Int) (a5 : Nat) (a6 a7 : Nat → Int) (a8 : Nat) (a9 a10 a11 a12 : Nat → Int) (a13 : Nat) (a14 a15 : Nat → Int) : DD (Lf djuN djuR) :=
 let z0 := fun i => [CV.int IntKind.i64 (IE.x (a6 (0 + i))), CV.int IntKind.i64 (IE.x (a7 (0 + i)))]
 let z1 := fun i => [CV.int IntKind.i64 (IE.x (a9 (0 + i))), CV.int IntKind.i64 (IE.x (a10 (0 + i))), CV.int IntKind.i64 (IE.x (a11 (0 + i))), CV.int IntKind.i64 (IE.x (a12 (0 + i)))]
 let z2 := fun i => a6 (0 + i)
 let z3 := fun i => a7 (0 + i)
 let z4 := fun i => a9 (0 + i)
 let z5 := fun i => a10 (0 + i)
 let z6 := fun i => a11 (0 + i)
 let z7 := fun i => a12 (0 + i)
 let z8 := dshA a0 a1 a2 a3 a4 a5 z2 z3 a8 z4 z5 z6 z7
 let z9 := AF.val z8
 let z10 := dshw5 z9
 let z11 := dshw6 z9
 let z12 := fun i => [CV.int IntKind.i64 (IE.x (a14 (0 + i))), CV.int IntKind.i64 (IE.x (a15 (0 + i)))]
 let z13 := dshw0 z9
 let z14 := dshw1 z9
 let z15 := dshw2 z9
 let z16 := dshw3 z9
 let z17 := dshw4 z9
 let z18 := dshw7 z9
 let z19 := dvpA z13 z14 z15 z16 z17 z10 z2 z3 z11 z4 z5 z6 z7 z18 a13 (fun i => a14 (0 + i)) (fun i => a15 (0 + i))
 .must (decide (0 + a5 ≤ a5))
   (.must (ShapeOk [some IntKind.i64, some IntKind.i64] (tabOf a5 z0) z0)
   (.must (decide (0 + a8 ≤ a8))
   (.must (ShapeOk [some IntKind.i64, some IntKind.i64, some IntKind.i64, some IntKind.i64] (tabOf a8 z1) z1)
   (.must (AF.fin z8)
   (.ask (Cm.run .neq (dshw8 z9) 0)
   (.leaf (.done (0, dshw8 z9) []))
   (.ask (Cm.run .gtr ((↑a13 : Int)) 1000)
   (.leaf (.done (0, 5) []))
   (.must (decide (0 + dshw5 z9 ≤ a5))
   (.must (ShapeOk [some IntKind.i64, some IntKind.i64] (tabOf z10 z0) z0)
   (.must (decide (0 + dshw6 z9 ≤ a8))
   (.must (ShapeOk [some IntKind.i64, some IntKind.i64, some IntKind.i64, some IntKind.i64] (tabOf z11 z1) z1)
   (.must (decide (0 + a13 ≤ a13))
   (.must (ShapeOk [some IntKind.i64, some IntKind.i64] (tabOf a13 z12) z12)
   (.must (AF.fin z19)
   (.ask (!AF.val z19)
   (.leaf (.done (0, 2) []))
   (.ask (Cm.run .eql ((↑a13 : Int)) 0)
   (.leaf (.done (0, 0) []))
   (.must (true)
   (.must (decide (0 < (↑a13 : Int)))
   (.must (decide (0 + Int.toNat 0 < a13))
   (.ask (Cm.run .gtr (a14 (0 + Int.toNat 0)) 0)
   (.leaf (.done (0, 0) []))
   (.leaf (.next (.n0 0 z13 z14 z15 z16 z17 z10 z11 z18) [4])))))))))))))))))))))

noncomputable def djuD (a0 : Bool) (a1 a2 a3 a4 : Int) (a5 : Nat) (a6 a7 : Nat → Int) (a8 : Nat) (a9 a10 a11 a12 : Nat → Int) (a13 : Nat) (a14 a15 : Nat → Int) : djuN → DD (Lf djuN djuR)
 | .n0 p0 p1 p2 p3 p4 p5 p6 p7 p8 =>
 let z0 := Ar.run .add .i64 p0 1
 let z1 := decide (0 + p6 ≤ a5)
 let z2 := fun i => [CV.int IntKind.i64 (IE.x (a6 (0 + i))), CV.int IntKind.i64 (IE.x (a7 (0 + i)))]
 let z3 := ShapeOk [some IntKind.i64, some IntKind.i64] (tabOf p6 z2) z2
 let z4 := decide (0 + p7 ≤ a8)
 let z5 := fun i => [CV.int IntKind.i64 (IE.x (a9 (0 + i))), CV.int IntKind.i64 (IE.x (a10 (0 + i))), CV.int IntKind.i64 (IE.x (a11 (0 + i))), CV.int IntKind.i64 (IE.x (a12 (0 + i)))]
 let z6 := ShapeOk [some IntKind.i64, some IntKind.i64, some IntKind.i64, some IntKind.i64] (tabOf p7 z5) z5
 let z7 := fun i => a6 (0 + i)
 let z8 := fun i => a7 (0 + i)
 let z9 := fun i => a9 (0 + i)
 let z10 := fun i => a10 (0 + i)
 let z11 := fun i => a11 (0 + i)
 let z12 := fun i => a12 (0 + i)
 let z13 := a15 (0 + Int.toNat p0)
 let z14 := a14 (0 + Int.toNat p0)
 let z15 := a14 (0 + Int.toNat z0)
 let z16 := drcA p1 p2 p3 p4 p5 p6 z7 z8 p7 z9 z10 z11 z12 p8 z13 z13 z14 z15
 let z17 := Prod.snd (AF.val z16)
 let z18 := drcA p1 p2 p3 p4 p5 p6 z7 z8 p7 z9 z10 z11 z12 p8 z13 z13 z14 p8
 let z19 := Prod.snd (AF.val z18)
 .ask (Cm.run .lss p0 (↑a13 : Int))
   (.must (decide (0 ≤ p0))
   (.must (decide (p0 < (↑a13 : Int)))
   (.must (decide (0 + Int.toNat p0 < a13))
   (.ask (Cm.run .lss z0 (↑a13 : Int))
   (.must (decide (0 ≤ Ar.run .add .i64 p0 1))
   (.must (decide (Ar.run .add .i64 p0 1 < (↑a13 : Int)))
   (.must (decide (0 + Int.toNat z0 < a13))
   (.must z1
   (.must z3
   (.must z4
   (.must z6
   (.must (AF.fin z16)
   (.ask (Cm.run .lss (Prod.snd z17) z15)
   (.leaf (.done (Prod.snd z17, 0) []))
   (.leaf (.next (.n0 z0 p1 p2 p3 p4 p5 p6 p7 p8) [3])))))))))))
   (.must z1
   (.must z3
   (.must z4
   (.must z6
   (.must (AF.fin z18)
   (.ask (Cm.run .lss (Prod.snd z19) p8)
   (.leaf (.done (Prod.snd z19, 0) []))
   (.leaf (.next (.n0 z0 p1 p2 p3 p4 p5 p6 p7 p8) [3]))))))))))))
   (.leaf (.done (p8, 0) []))

noncomputable def djuA (a0 : Bool) (a1 a2 a3 a4 : Int) (a5 : Nat) (a6 a7 : Nat → Int) (a8 : Nat) (a9 a10 a11 a12 : Nat → Int) (a13 : Nat) (a14 a15 : Nat → Int) : AF djuN djuR where
  code := djuCode
  base := 3
  nt := 83
  m := 400
  un := []
  W := []
  h0 := [(0, ⟨.arg a5 2 (fun i => [.int .i64 (.x (a6 i)), .int .i64 (.x (a7 i))]) (fun _ => ⟨rfl, rfl⟩), 2, true, none⟩), (1, ⟨.arg a8 4 (fun i => [.int .i64 (.x (a9 i)), .int .i64 (.x (a10 i)), .int .i64 (.x (a11 i)), .int .i64 (.x (a12 i))]) (fun _ => ⟨rfl, rfl⟩), 4, true, none⟩), (2, ⟨.arg a13 2 (fun i => [.int .i64 (.x (a14 i)), .int .i64 (.x (a15 i))]) (fun _ => ⟨rfl, rfl⟩), 2, true, none⟩)]
  args := [.agg [.bool (.x a0), .int .i64 (.x a1), .int .i64 (.x a2), .int .i64 (.x a3), .int .i64 (.x a4), .sla 0 2 0 a5], .sla 1 4 0 a8, .sla 2 2 0 a13]
  res := (Try.f34).results.toList
  path := fun a => match a with
   | .n0 p0 p1 p2 p3 p4 p5 p6 p7 p8 => [1, 1, 1, 1, 1, 1, 0, 1, 0]
  pd := fun a => match a with
   | .n0 p0 p1 p2 p3 p4 p5 p6 p7 p8 => ⟨[(2, .sla 2 2 0 a13), (8, .ptr (some (3, 0))), (42, .sla 2 2 0 a13), (43, .int .i64 (.x (↑a13))), (44, .int .i64 (.x p0))], [(3, ⟨.lit [.bool (.x p1), .int .i64 (.x p2), .int .i64 (.x p3), .int .i64 (.x p4), .int .i64 (.x p5), .sla 0 2 0 p6, .sla 1 4 0 p7, .int .i64 (.x p8)], 0, true, none⟩)], 4, []⟩
  D0 := djuD0 a0 a1 a2 a3 a4 a5 a6 a7 a8 a9 a10 a11 a12 a13 a14 a15
  D := djuD a0 a1 a2 a3 a4 a5 a6 a7 a8 a9 a10 a11 a12 a13 a14 a15
  rc := (fun v => .tup [.int .i64 (.x v.1), .int .i64 (.x v.2)])
  rh := (fun v => [])
  rn := (fun v => 3)
  rx := (fun v => [])
  rgo := (fun _ => none)
theorem djustart (a0 : Bool) (a1 a2 a3 a4 : Int) (a5 : Nat) (a6 a7 : Nat → Int) (a8 : Nat) (a9 a10 a11 a12 : Nat → Int) (a13 : Nat) (a14 a15 : Nat → Int) : AF.edgeOk (djuA a0 a1 a2 a3 a4 a5 a6 a7 a8 a9 a10 a11 a12 a13 a14 a15) (ctxOf Try.prog memo0) (djuD0 a0 a1 a2 a3 a4 a5 a6 a7 a8 a9 a10 a11 a12 a13 a14 a15) (AF.run0 (djuA a0 a1 a2 a3 a4 a5 a6 a7 a8 a9 a10 a11 a12 a13 a14 a15) (ctxOf Try.prog (memoS 75 dvpP dvpF dvpW dvpH 3 (memoS 67 drcP drcF drcW drcH 2 (memoP 63 dshP dshF dshW dshH 2 memo0))))) := by unfold AF.edgeOk; kernel_rfl
theorem djunode0 (a0 : Bool) (a1 a2 a3 a4 : Int) (a5 : Nat) (a6 a7 : Nat → Int) (a8 : Nat) (a9 a10 a11 a12 : Nat → Int) (a13 : Nat) (a14 a15 : Nat → Int) (p0 : Int) (p1 : Bool) (p2 p3 p4 p5 : Int) (p6 p7 : Nat) (p8 : Int) : AF.edgeOk (djuA a0 a1 a2 a3 a4 a5 a6 a7 a8 a9 a10 a11 a12 a13 a14 a15) (ctxOf Try.prog memo0) (djuD a0 a1 a2 a3 a4 a5 a6 a7 a8 a9 a10 a11 a12 a13 a14 a15 (.n0 p0 p1 p2 p3 p4 p5 p6 p7 p8)) (AF.runN (djuA a0 a1 a2 a3 a4 a5 a6 a7 a8 a9 a10 a11 a12 a13 a14 a15) (ctxOf Try.prog (memoS 75 dvpP dvpF dvpW dvpH 3 (memoS 67 drcP drcF drcW drcH 2 (memoP 63 dshP dshF dshW dshH 2 memo0)))) (.n0 p0 p1 p2 p3 p4 p5 p6 p7 p8)) := by unfold AF.edgeOk; kernel_rfl
theorem djuok (a0 : Bool) (a1 a2 a3 a4 : Int) (a5 : Nat) (a6 a7 : Nat → Int) (a8 : Nat) (a9 a10 a11 a12 : Nat → Int) (a13 : Nat) (a14 a15 : Nat → Int) : (djuA a0 a1 a2 a3 a4 a5 a6 a7 a8 a9 a10 a11 a12 a13 a14 a15).Ok Try.prog (ctxOf Try.prog (memoS 75 dvpP dvpF dvpW dvpH 3 (memoS 67 drcP drcF drcW drcH 2 (memoP 63 dshP dshF dshW dshH 2 memo0)))) where
  regs := by kernel_rfl
  h0 := by kernel_rfl
  start := djustart a0 a1 a2 a3 a4 a5 a6 a7 a8 a9 a10 a11 a12 a13 a14 a15
  node := fun a _ => match a with
   | .n0 p0 p1 p2 p3 p4 p5 p6 p7 p8 => djunode0 a0 a1 a2 a3 a4 a5 a6 a7 a8 a9 a10 a11 a12 a13 a14 a15 p0 p1 p2 p3 p4 p5 p6 p7 p8
  pd := fun a => match a with
   | .n0 p0 p1 p2 p3 p4 p5 p6 p7 p8 => ⟨(fa_cons rfl (fa_cons rfl (fa_cons rfl (fa_cons rfl (fa_cons rfl fa_nil))))), (fa_cons ⟨.inl (Nat.le_of_ble_eq_true rfl), rfl, rfl⟩ fa_nil), fa_nil, rfl⟩
  le := fun a => match a with
   | .n0 p0 p1 p2 p3 p4 p5 p6 p7 p8 => Nat.le_of_ble_eq_true rfl
  rd := fun v => ⟨⟨fa_nil, fa_nil, fa_nil, rfl⟩, rfl⟩
  wb := rfl
theorem djuhR {ρ : Env} (a0 : Bool) (a1 a2 a3 a4 : Int) (a5 : Nat) (a6 a7 : Nat → Int) (a8 : Nat) (a9 a10 a11 a12 : Nat → Int) (a13 : Nat) (a14 a15 : Nat → Int) (hM : MemoOk Try.prog (ctxOf Try.prog (memoS 75 dvpP dvpF dvpW dvpH 3 (memoS 67 drcP drcF drcW drcH 2 (memoP 63 dshP dshF dshW dshH 2 memo0)))) ρ) : ∀ X a q n D, FxOk ρ X → X.base = (djuA a0 a1 a2 a3 a4 a5 a6 a7 a8 a9 a10 a11 a12 a13 a14 a15).base → X.nt = (djuA a0 a1 a2 a3 a4 a5 a6 a7 a8 a9 a10 a11 a12 a13 a14 a15).nt → X.W = (djuA a0 a1 a2 a3 a4 a5 a6 a7 a8 a9 a10 a11 a12 a13 a14 a15).W → (djuA a0 a1 a2 a3 a4 a5 a6 a7 a8 a9 a10 a11 a12 a13 a14 a15).rgo a = some q → q n = some D → (djuA a0 a1 a2 a3 a4 a5 a6 a7 a8 a9 a10 a11 a12 a13 a14 a15).RangeOk Try.prog ρ X a D := AF.noRange rfl
theorem djuctr {ρ : Env} (a0 : Bool) (a1 a2 a3 a4 : Int) (a5 : Nat) (a6 a7 : Nat → Int) (a8 : Nat) (a9 a10 a11 a12 : Nat → Int) (a13 : Nat) (a14 a15 : Nat → Int) {n : Nat} {v : djuR} (hM : MemoOk Try.prog (ctxOf Try.prog (memoS 75 dvpP dvpF dvpW dvpH 3 (memoS 67 drcP drcF drcW drcH 2 (memoP 63 dshP dshF dshW dshH 2 memo0)))) ρ) (hv : (djuA a0 a1 a2 a3 a4 a5 a6 a7 a8 a9 a10 a11 a12 a13 a14 a15).run n = some v) :
    Ctr Try.prog ρ 34 (djuA a0 a1 a2 a3 a4 a5 a6 a7 a8 a9 a10 a11 a12 a13 a14 a15).args (djuA a0 a1 a2 a3 a4 a5 a6 a7 a8 a9 a10 a11 a12 a13 a14 a15).H0 (djuA a0 a1 a2 a3 a4 a5 a6 a7 a8 a9 a10 a11 a12 a13 a14 a15).base (djuA a0 a1 a2 a3 a4 a5 a6 a7 a8 a9 a10 a11 a12 a13 a14 a15).W ((djuA a0 a1 a2 a3 a4 a5 a6 a7 a8 a9 a10 a11 a12 a13 a14 a15).rc v) (putH (djuA a0 a1 a2 a3 a4 a5 a6 a7 a8 a9 a10 a11 a12 a13 a14 a15).H0 ((djuA a0 a1 a2 a3 a4 a5 a6 a7 a8 a9 a10 a11 a12 a13 a14 a15).rh v ++ (djuA a0 a1 a2 a3 a4 a5 a6 a7 a8 a9 a10 a11 a12 a13 a14 a15).rx v)) ((djuA a0 a1 a2 a3 a4 a5 a6 a7 a8 a9 a10 a11 a12 a13 a14 a15).rn v) :=
  AF.ctr try_ok hM (djuok a0 a1 a2 a3 a4 a5 a6 a7 a8 a9 a10 a11 a12 a13 a14 a15) (fn := Try.f34) Try.func34 rfl rfl (Nat.le_of_ble_eq_true rfl) rfl (djuhR a0 a1 a2 a3 a4 a5 a6 a7 a8 a9 a10 a11 a12 a13 a14 a15 hM) hv
theorem djumem {ρ : Env} : MemoOk Try.prog (ctxOf Try.prog (memoS 75 dvpP dvpF dvpW dvpH 3 (memoS 67 drcP drcF drcW drcH 2 (memoP 63 dshP dshF dshW dshH 2 memo0)))) ρ := (memoS_ok (dvpknown dvpmem) (memoS_ok (drcknown drcmem) (memoP_ok (dshknown dshmem) memo0_ok)))
abbrev djuP : List AQ := [.agg [.bool, .int .i64, .int .i64, .int .i64, .int .i64, .rows [some .i64, some .i64]], .rows [some .i64, some .i64, some .i64, some .i64], .rows [some .i64, some .i64]]
noncomputable def djuF (v : AW) : AF djuN djuR := djuA (v.b.getD 0 false) (v.i.getD 0 0) (v.i.getD 1 0) (v.i.getD 2 0) (v.i.getD 3 0) (v.t.getD 0 .none).n ((v.t.getD 0 .none).c 0) ((v.t.getD 0 .none).c 1) (v.t.getD 1 .none).n ((v.t.getD 1 .none).c 0) ((v.t.getD 1 .none).c 1) ((v.t.getD 1 .none).c 2) ((v.t.getD 1 .none).c 3) (v.t.getD 2 .none).n ((v.t.getD 2 .none).c 0) ((v.t.getD 2 .none).c 1)
noncomputable def djuW : djuR → CV := fun v => .tup [.int .i64 (.x v.1), .int .i64 (.x v.2)]
noncomputable def djuH : djuR → List (Nat × Blk) := fun v => []
instance : Inhabited djuR := ⟨(0, 0)⟩
theorem djuknown {ρ : Env} (hM : MemoOk Try.prog (ctxOf Try.prog (memoS 75 dvpP dvpF dvpW dvpH 3 (memoS 67 drcP drcF drcW drcH 2 (memoP 63 dshP dshF dshW dshH 2 memo0)))) ρ) : KnownS Try.prog ρ 34 djuP djuF djuW djuH 3 where
  fn := ⟨Try.f34, Try.func34, rfl⟩
  le := Nat.le_of_ble_eq_true rfl
  full := fun r => rfl
  rg := fun r => rfl
  hg := fun r => fa_nil
  ctr := fun v n r h => djuctr (v.b.getD 0 false) (v.i.getD 0 0) (v.i.getD 1 0) (v.i.getD 2 0) (v.i.getD 3 0) (v.t.getD 0 .none).n ((v.t.getD 0 .none).c 0) ((v.t.getD 0 .none).c 1) (v.t.getD 1 .none).n ((v.t.getD 1 .none).c 0) ((v.t.getD 1 .none).c 1) ((v.t.getD 1 .none).c 2) ((v.t.getD 1 .none).c 3) (v.t.getD 2 .none).n ((v.t.getD 2 .none).c 0) ((v.t.getD 2 .none).c 1) hM h
end Go.Proofs.Ythagjhadjpangaa.Cx

/- acme/acmeref07.Judge as an automaton. Made by tools/cxauto.py. -/
namespace Go.Proofs.Ythagjhadjpangaa.Cx
set_option linter.unusedVariables false
set_option linter.unusedSimpArgs false
set_option maxRecDepth 100000
open Go Go.Proofs Go.RowKit
noncomputable abbrev rdjCode : Code := funcCode Try.f37
inductive rdjN where
  | n0 (p0 p1 p2 p3 : Int)
abbrev rdjR := Int
noncomputable def rdjD0 (a0 : Bool) (a1 a2 a3 a4 : Int) (a5 : Nat) (a6 a7 : Nat → Int) (a8 : Nat) (a9 a10 a11 a12 : Nat → Int) (a13 : Nat) (a14 a15 : Nat → Int) : DD (Lf rdjN rdjR) :=
 .leaf (.next (.n0 (-1) 0 0 0) [3, 4])

noncomputable def rdjD (a0 : Bool) (a1 a2 a3 a4 : Int) (a5 : Nat) (a6 a7 : Nat → Int) (a8 : Nat) (a9 a10 a11 a12 : Nat → Int) (a13 : Nat) (a14 a15 : Nat → Int) : rdjN → DD (Lf rdjN rdjR)
 | .n0 p0 p1 p2 p3 =>
 let z0 := decide (0 + a8 ≤ a8)
 let z1 := fun i => [CV.int IntKind.i64 (IE.x (a9 (0 + i))), CV.int IntKind.i64 (IE.x (a10 (0 + i))), CV.int IntKind.i64 (IE.x (a11 (0 + i))), CV.int IntKind.i64 (IE.x (a12 (0 + i)))]
 let z2 := ShapeOk [some IntKind.i64, some IntKind.i64, some IntKind.i64, some IntKind.i64] (tabOf a8 z1) z1
 let z3 := fun i => a9 (0 + i)
 let z4 := fun i => a10 (0 + i)
 let z5 := fun i => a11 (0 + i)
 let z6 := fun i => a12 (0 + i)
 let z7 := rdaA a8 z3 z4 z5 z6
 let z8 := AF.fin z7
 let z9 := AF.val z7
 let z10 := Ar.run .add .i64 p0 1
 let z11 := decide (0 ≤ Ar.run .add .i64 p0 1)
 let z12 := decide (0 + Int.toNat z10 < a13)
 let z13 := rdoA a8 z3 z4 z5 z6 p1
 let z14 := AF.fin z13
 let z15 := decide (0 + a5 ≤ a5)
 let z16 := fun i => [CV.int IntKind.i64 (IE.x (a6 (0 + i))), CV.int IntKind.i64 (IE.x (a7 (0 + i)))]
 let z17 := ShapeOk [some IntKind.i64, some IntKind.i64] (tabOf a5 z16) z16
 let z18 := fun i => a6 (0 + i)
 let z19 := fun i => a7 (0 + i)
 let z20 := rofA a0 a1 a2 a3 a4 a5 z18 z19 0 0
 let z21 := a15 (0 + Int.toNat z10)
 let z22 := AF.val z20
 let z23 := Prod.snd (AF.val z13)
 let z24 := Prod.snd z23
 let z25 := Prod.fst z24
 let z26 := Prod.snd z24
 let z27 := decide (0 ≤ Prod.fst z23)
 let z28 := decide (0 + Int.toNat (Prod.fst z23) < a5)
 let z29 := Ar.run .add .i64 p1 1
 let z30 := fun i => [CV.int IntKind.i64 (IE.x (a9 i)), CV.int IntKind.i64 (IE.x (a10 i)), CV.int IntKind.i64 (IE.x (a11 i)), CV.int IntKind.i64 (IE.x (a12 i))]
 let z31 := tabOf a8 (fun i => z30 (0 + i))
 let z32 := Cm.run .lss p0 0
 let z33 := rofA a0 a1 a2 a3 a4 a5 z18 z19 p2 p3
 let z34 := AF.fin z33
 let z35 := decide (0 ≤ p0)
 let z36 := decide (0 + Int.toNat p0 < a13)
 let z37 := a15 (0 + Int.toNat p0)
 let z38 := AF.val z33
 let z39 := Cm.run .lss (Ar.run .add .i64 z37 (Prod.fst z38)) z25
 let z40 := Cm.run .gtr (Ar.run .add .i64 z37 (Prod.snd z38)) z26
 .must z0
   (.must z2
   (.must z8
   (.ask (Cm.run .lss p1 z9)
   (.ask (Cm.run .lss z10 (↑a13 : Int))
   (.must z11
   (.must (decide (Ar.run .add .i64 p0 1 < (↑a13 : Int)))
   (.must z12
   (.ask (Cm.run .eql (a14 (0 + Int.toNat z10)) p1)
   (.ask (Cm.run .lss z10 0)
   (.leaf (.done p1 []))
   (.must z0
   (.must z2
   (.must z14
   (.must z15
   (.must z17
   (.must (AF.fin z20)
   (.must z11
   (.must (decide (Ar.run .add .i64 p0 1 < (↑a13 : Int)))
   (.must z12
   (.ask (Cm.run .lss (Ar.run .add .i64 z21 (Prod.fst z22)) z25)
   (.leaf (.done p1 []))
   (.must z11
   (.must (decide (Ar.run .add .i64 p0 1 < (↑a13 : Int)))
   (.must z12
   (.ask (Cm.run .gtr (Ar.run .add .i64 z21 (Prod.snd z22)) z26)
   (.leaf (.done p1 []))
   (.must z27
   (.must (decide (Prod.fst z23 < (↑a5 : Int)))
   (.must z28
   (.leaf (.next (.n0 z10 z29 (Ar.run .add .i64 0 (a6 (0 + Int.toNat (Prod.fst (Prod.snd (AF.val (rdoF (AG.v { v := { i := AW.i (AG.v { v := { i := AW.i (AG.v { v := { i := [], b := [], t := [] }, sh := [], R := [] }), b := AW.b (AG.v { v := { i := [], b := [], t := [] }, sh := [], R := [] }), t := AW.t (AG.v { v := { i := [], b := [], t := [] }, sh := [], R := [] }) ++ [tabOf a8 fun i => z30 (0 + i)] }, sh := AG.sh { v := { i := [], b := [], t := [] }, sh := [], R := [] } ++ [decide (0 + a8 ≤ a8), ShapeOk [some IntKind.i64, some IntKind.i64, some IntKind.i64, some IntKind.i64] z31 fun i => z30 (0 + i)], R := AG.R { v := { i := [], b := [], t := [] }, sh := [], R := [] } ++ [1] }) ++ [p1], b := AW.b (AG.v { v := { i := AW.i (AG.v { v := { i := [], b := [], t := [] }, sh := [], R := [] }), b := AW.b (AG.v { v := { i := [], b := [], t := [] }, sh := [], R := [] }), t := AW.t (AG.v { v := { i := [], b := [], t := [] }, sh := [], R := [] }) ++ [tabOf a8 fun i => z30 (0 + i)] }, sh := AG.sh { v := { i := [], b := [], t := [] }, sh := [], R := [] } ++ [decide (0 + a8 ≤ a8), ShapeOk [some IntKind.i64, some IntKind.i64, some IntKind.i64, some IntKind.i64] z31 fun i => z30 (0 + i)], R := AG.R { v := { i := [], b := [], t := [] }, sh := [], R := [] } ++ [1] }), t := AW.t (AG.v { v := { i := AW.i (AG.v { v := { i := [], b := [], t := [] }, sh := [], R := [] }), b := AW.b (AG.v { v := { i := [], b := [], t := [] }, sh := [], R := [] }), t := AW.t (AG.v { v := { i := [], b := [], t := [] }, sh := [], R := [] }) ++ [tabOf a8 fun i => z30 (0 + i)] }, sh := AG.sh { v := { i := [], b := [], t := [] }, sh := [], R := [] } ++ [decide (0 + a8 ≤ a8), ShapeOk [some IntKind.i64, some IntKind.i64, some IntKind.i64, some IntKind.i64] z31 fun i => z30 (0 + i)], R := AG.R { v := { i := [], b := [], t := [] }, sh := [], R := [] } ++ [1] }) }, sh := AG.sh { v := { i := AW.i (AG.v { v := { i := [], b := [], t := [] }, sh := [], R := [] }), b := AW.b (AG.v { v := { i := [], b := [], t := [] }, sh := [], R := [] }), t := AW.t (AG.v { v := { i := [], b := [], t := [] }, sh := [], R := [] }) ++ [tabOf a8 fun i => z30 (0 + i)] }, sh := AG.sh { v := { i := [], b := [], t := [] }, sh := [], R := [] } ++ [decide (0 + a8 ≤ a8), ShapeOk [some IntKind.i64, some IntKind.i64, some IntKind.i64, some IntKind.i64] z31 fun i => z30 (0 + i)], R := AG.R { v := { i := [], b := [], t := [] }, sh := [], R := [] } ++ [1] }, R := AG.R { v := { i := AW.i (AG.v { v := { i := [], b := [], t := [] }, sh := [], R := [] }), b := AW.b (AG.v { v := { i := [], b := [], t := [] }, sh := [], R := [] }), t := AW.t (AG.v { v := { i := [], b := [], t := [] }, sh := [], R := [] }) ++ [tabOf a8 fun i => z30 (0 + i)] }, sh := AG.sh { v := { i := [], b := [], t := [] }, sh := [], R := [] } ++ [decide (0 + a8 ≤ a8), ShapeOk [some IntKind.i64, some IntKind.i64, some IntKind.i64, some IntKind.i64] z31 fun i => z30 (0 + i)], R := AG.R { v := { i := [], b := [], t := [] }, sh := [], R := [] } ++ [1] } })))))))) (Ar.run .add .i64 0 (a7 (0 + Int.toNat (Prod.fst (Prod.snd (AF.val (rdoF (AG.v { v := { i := AW.i (AG.v { v := { i := AW.i (AG.v { v := { i := [], b := [], t := [] }, sh := [], R := [] }), b := AW.b (AG.v { v := { i := [], b := [], t := [] }, sh := [], R := [] }), t := AW.t (AG.v { v := { i := [], b := [], t := [] }, sh := [], R := [] }) ++ [tabOf a8 fun i => z30 (0 + i)] }, sh := AG.sh { v := { i := [], b := [], t := [] }, sh := [], R := [] } ++ [decide (0 + a8 ≤ a8), ShapeOk [some IntKind.i64, some IntKind.i64, some IntKind.i64, some IntKind.i64] z31 fun i => z30 (0 + i)], R := AG.R { v := { i := [], b := [], t := [] }, sh := [], R := [] } ++ [1] }) ++ [p1], b := AW.b (AG.v { v := { i := AW.i (AG.v { v := { i := [], b := [], t := [] }, sh := [], R := [] }), b := AW.b (AG.v { v := { i := [], b := [], t := [] }, sh := [], R := [] }), t := AW.t (AG.v { v := { i := [], b := [], t := [] }, sh := [], R := [] }) ++ [tabOf a8 fun i => z30 (0 + i)] }, sh := AG.sh { v := { i := [], b := [], t := [] }, sh := [], R := [] } ++ [decide (0 + a8 ≤ a8), ShapeOk [some IntKind.i64, some IntKind.i64, some IntKind.i64, some IntKind.i64] z31 fun i => z30 (0 + i)], R := AG.R { v := { i := [], b := [], t := [] }, sh := [], R := [] } ++ [1] }), t := AW.t (AG.v { v := { i := AW.i (AG.v { v := { i := [], b := [], t := [] }, sh := [], R := [] }), b := AW.b (AG.v { v := { i := [], b := [], t := [] }, sh := [], R := [] }), t := AW.t (AG.v { v := { i := [], b := [], t := [] }, sh := [], R := [] }) ++ [tabOf a8 fun i => z30 (0 + i)] }, sh := AG.sh { v := { i := [], b := [], t := [] }, sh := [], R := [] } ++ [decide (0 + a8 ≤ a8), ShapeOk [some IntKind.i64, some IntKind.i64, some IntKind.i64, some IntKind.i64] z31 fun i => z30 (0 + i)], R := AG.R { v := { i := [], b := [], t := [] }, sh := [], R := [] } ++ [1] }) }, sh := AG.sh { v := { i := AW.i (AG.v { v := { i := [], b := [], t := [] }, sh := [], R := [] }), b := AW.b (AG.v { v := { i := [], b := [], t := [] }, sh := [], R := [] }), t := AW.t (AG.v { v := { i := [], b := [], t := [] }, sh := [], R := [] }) ++ [tabOf a8 fun i => z30 (0 + i)] }, sh := AG.sh { v := { i := [], b := [], t := [] }, sh := [], R := [] } ++ [decide (0 + a8 ≤ a8), ShapeOk [some IntKind.i64, some IntKind.i64, some IntKind.i64, some IntKind.i64] z31 fun i => z30 (0 + i)], R := AG.R { v := { i := [], b := [], t := [] }, sh := [], R := [] } ++ [1] }, R := AG.R { v := { i := AW.i (AG.v { v := { i := [], b := [], t := [] }, sh := [], R := [] }), b := AW.b (AG.v { v := { i := [], b := [], t := [] }, sh := [], R := [] }), t := AW.t (AG.v { v := { i := [], b := [], t := [] }, sh := [], R := [] }) ++ [tabOf a8 fun i => z30 (0 + i)] }, sh := AG.sh { v := { i := [], b := [], t := [] }, sh := [], R := [] } ++ [decide (0 + a8 ≤ a8), ShapeOk [some IntKind.i64, some IntKind.i64, some IntKind.i64, some IntKind.i64] z31 fun i => z30 (0 + i)], R := AG.R { v := { i := [], b := [], t := [] }, sh := [], R := [] } ++ [1] } }))))))))) [3, 4]))))))))))))))))))))
   (.ask z32
   (.leaf (.done p1 []))
   (.must z0
   (.must z2
   (.must z14
   (.must z15
   (.must z17
   (.must z34
   (.must z35
   (.must (decide (p0 < (↑a13 : Int)))
   (.must z36
   (.ask z39
   (.leaf (.done p1 []))
   (.must z35
   (.must (decide (p0 < (↑a13 : Int)))
   (.must z36
   (.ask z40
   (.leaf (.done p1 []))
   (.must z27
   (.must (decide (Prod.fst z23 < (↑a5 : Int)))
   (.must z28
   (.leaf (.next (.n0 p0 z29 (Ar.run .add .i64 p2 (a6 (0 + Int.toNat (Prod.fst (Prod.snd (AF.val (rdoF (AG.v { v := { i := AW.i (AG.v { v := { i := AW.i (AG.v { v := { i := [], b := [], t := [] }, sh := [], R := [] }), b := AW.b (AG.v { v := { i := [], b := [], t := [] }, sh := [], R := [] }), t := AW.t (AG.v { v := { i := [], b := [], t := [] }, sh := [], R := [] }) ++ [tabOf a8 fun i => z30 (0 + i)] }, sh := AG.sh { v := { i := [], b := [], t := [] }, sh := [], R := [] } ++ [decide (0 + a8 ≤ a8), ShapeOk [some IntKind.i64, some IntKind.i64, some IntKind.i64, some IntKind.i64] z31 fun i => z30 (0 + i)], R := AG.R { v := { i := [], b := [], t := [] }, sh := [], R := [] } ++ [1] }) ++ [p1], b := AW.b (AG.v { v := { i := AW.i (AG.v { v := { i := [], b := [], t := [] }, sh := [], R := [] }), b := AW.b (AG.v { v := { i := [], b := [], t := [] }, sh := [], R := [] }), t := AW.t (AG.v { v := { i := [], b := [], t := [] }, sh := [], R := [] }) ++ [tabOf a8 fun i => z30 (0 + i)] }, sh := AG.sh { v := { i := [], b := [], t := [] }, sh := [], R := [] } ++ [decide (0 + a8 ≤ a8), ShapeOk [some IntKind.i64, some IntKind.i64, some IntKind.i64, some IntKind.i64] z31 fun i => z30 (0 + i)], R := AG.R { v := { i := [], b := [], t := [] }, sh := [], R := [] } ++ [1] }), t := AW.t (AG.v { v := { i := AW.i (AG.v { v := { i := [], b := [], t := [] }, sh := [], R := [] }), b := AW.b (AG.v { v := { i := [], b := [], t := [] }, sh := [], R := [] }), t := AW.t (AG.v { v := { i := [], b := [], t := [] }, sh := [], R := [] }) ++ [tabOf a8 fun i => z30 (0 + i)] }, sh := AG.sh { v := { i := [], b := [], t := [] }, sh := [], R := [] } ++ [decide (0 + a8 ≤ a8), ShapeOk [some IntKind.i64, some IntKind.i64, some IntKind.i64, some IntKind.i64] z31 fun i => z30 (0 + i)], R := AG.R { v := { i := [], b := [], t := [] }, sh := [], R := [] } ++ [1] }) }, sh := AG.sh { v := { i := AW.i (AG.v { v := { i := [], b := [], t := [] }, sh := [], R := [] }), b := AW.b (AG.v { v := { i := [], b := [], t := [] }, sh := [], R := [] }), t := AW.t (AG.v { v := { i := [], b := [], t := [] }, sh := [], R := [] }) ++ [tabOf a8 fun i => z30 (0 + i)] }, sh := AG.sh { v := { i := [], b := [], t := [] }, sh := [], R := [] } ++ [decide (0 + a8 ≤ a8), ShapeOk [some IntKind.i64, some IntKind.i64, some IntKind.i64, some IntKind.i64] z31 fun i => z30 (0 + i)], R := AG.R { v := { i := [], b := [], t := [] }, sh := [], R := [] } ++ [1] }, R := AG.R { v := { i := AW.i (AG.v { v := { i := [], b := [], t := [] }, sh := [], R := [] }), b := AW.b (AG.v { v := { i := [], b := [], t := [] }, sh := [], R := [] }), t := AW.t (AG.v { v := { i := [], b := [], t := [] }, sh := [], R := [] }) ++ [tabOf a8 fun i => z30 (0 + i)] }, sh := AG.sh { v := { i := [], b := [], t := [] }, sh := [], R := [] } ++ [decide (0 + a8 ≤ a8), ShapeOk [some IntKind.i64, some IntKind.i64, some IntKind.i64, some IntKind.i64] z31 fun i => z30 (0 + i)], R := AG.R { v := { i := [], b := [], t := [] }, sh := [], R := [] } ++ [1] } })))))))) (Ar.run .add .i64 p3 (a7 (0 + Int.toNat (Prod.fst (Prod.snd (AF.val (rdoF (AG.v { v := { i := AW.i (AG.v { v := { i := AW.i (AG.v { v := { i := [], b := [], t := [] }, sh := [], R := [] }), b := AW.b (AG.v { v := { i := [], b := [], t := [] }, sh := [], R := [] }), t := AW.t (AG.v { v := { i := [], b := [], t := [] }, sh := [], R := [] }) ++ [tabOf a8 fun i => z30 (0 + i)] }, sh := AG.sh { v := { i := [], b := [], t := [] }, sh := [], R := [] } ++ [decide (0 + a8 ≤ a8), ShapeOk [some IntKind.i64, some IntKind.i64, some IntKind.i64, some IntKind.i64] z31 fun i => z30 (0 + i)], R := AG.R { v := { i := [], b := [], t := [] }, sh := [], R := [] } ++ [1] }) ++ [p1], b := AW.b (AG.v { v := { i := AW.i (AG.v { v := { i := [], b := [], t := [] }, sh := [], R := [] }), b := AW.b (AG.v { v := { i := [], b := [], t := [] }, sh := [], R := [] }), t := AW.t (AG.v { v := { i := [], b := [], t := [] }, sh := [], R := [] }) ++ [tabOf a8 fun i => z30 (0 + i)] }, sh := AG.sh { v := { i := [], b := [], t := [] }, sh := [], R := [] } ++ [decide (0 + a8 ≤ a8), ShapeOk [some IntKind.i64, some IntKind.i64, some IntKind.i64, some IntKind.i64] z31 fun i => z30 (0 + i)], R := AG.R { v := { i := [], b := [], t := [] }, sh := [], R := [] } ++ [1] }), t := AW.t (AG.v { v := { i := AW.i (AG.v { v := { i := [], b := [], t := [] }, sh := [], R := [] }), b := AW.b (AG.v { v := { i := [], b := [], t := [] }, sh := [], R := [] }), t := AW.t (AG.v { v := { i := [], b := [], t := [] }, sh := [], R := [] }) ++ [tabOf a8 fun i => z30 (0 + i)] }, sh := AG.sh { v := { i := [], b := [], t := [] }, sh := [], R := [] } ++ [decide (0 + a8 ≤ a8), ShapeOk [some IntKind.i64, some IntKind.i64, some IntKind.i64, some IntKind.i64] z31 fun i => z30 (0 + i)], R := AG.R { v := { i := [], b := [], t := [] }, sh := [], R := [] } ++ [1] }) }, sh := AG.sh { v := { i := AW.i (AG.v { v := { i := [], b := [], t := [] }, sh := [], R := [] }), b := AW.b (AG.v { v := { i := [], b := [], t := [] }, sh := [], R := [] }), t := AW.t (AG.v { v := { i := [], b := [], t := [] }, sh := [], R := [] }) ++ [tabOf a8 fun i => z30 (0 + i)] }, sh := AG.sh { v := { i := [], b := [], t := [] }, sh := [], R := [] } ++ [decide (0 + a8 ≤ a8), ShapeOk [some IntKind.i64, some IntKind.i64, some IntKind.i64, some IntKind.i64] z31 fun i => z30 (0 + i)], R := AG.R { v := { i := [], b := [], t := [] }, sh := [], R := [] } ++ [1] }, R := AG.R { v := { i := AW.i (AG.v { v := { i := [], b := [], t := [] }, sh := [], R := [] }), b := AW.b (AG.v { v := { i := [], b := [], t := [] }, sh := [], R := [] }), t := AW.t (AG.v { v := { i := [], b := [], t := [] }, sh := [], R := [] }) ++ [tabOf a8 fun i => z30 (0 + i)] }, sh := AG.sh { v := { i := [], b := [], t := [] }, sh := [], R := [] } ++ [decide (0 + a8 ≤ a8), ShapeOk [some IntKind.i64, some IntKind.i64, some IntKind.i64, some IntKind.i64] z31 fun i => z30 (0 + i)], R := AG.R { v := { i := [], b := [], t := [] }, sh := [], R := [] } ++ [1] } }))))))))) [3, 4]))))))))))))))))))))))))
   (.ask z32
   (.leaf (.done p1 []))
   (.must z0
   (.must z2
   (.must z14
   (.must z15
   (.must z17
   (.must z34
   (.must z35
   (.must (decide (p0 < (↑a13 : Int)))
   (.must z36
   (.ask z39
   (.leaf (.done p1 []))
   (.must z35
   (.must (decide (p0 < (↑a13 : Int)))
   (.must z36
   (.ask z40
   (.leaf (.done p1 []))
   (.must z27
   (.must (decide (Prod.fst z23 < (↑a5 : Int)))
   (.must z28
   (.leaf (.next (.n0 p0 z29 (Ar.run .add .i64 p2 (a6 (0 + Int.toNat (Prod.fst (Prod.snd (AF.val (rdoF (AG.v { v := { i := AW.i (AG.v { v := { i := AW.i (AG.v { v := { i := [], b := [], t := [] }, sh := [], R := [] }), b := AW.b (AG.v { v := { i := [], b := [], t := [] }, sh := [], R := [] }), t := AW.t (AG.v { v := { i := [], b := [], t := [] }, sh := [], R := [] }) ++ [tabOf a8 fun i => z30 (0 + i)] }, sh := AG.sh { v := { i := [], b := [], t := [] }, sh := [], R := [] } ++ [decide (0 + a8 ≤ a8), ShapeOk [some IntKind.i64, some IntKind.i64, some IntKind.i64, some IntKind.i64] z31 fun i => z30 (0 + i)], R := AG.R { v := { i := [], b := [], t := [] }, sh := [], R := [] } ++ [1] }) ++ [p1], b := AW.b (AG.v { v := { i := AW.i (AG.v { v := { i := [], b := [], t := [] }, sh := [], R := [] }), b := AW.b (AG.v { v := { i := [], b := [], t := [] }, sh := [], R := [] }), t := AW.t (AG.v { v := { i := [], b := [], t := [] }, sh := [], R := [] }) ++ [tabOf a8 fun i => z30 (0 + i)] }, sh := AG.sh { v := { i := [], b := [], t := [] }, sh := [], R := [] } ++ [decide (0 + a8 ≤ a8), ShapeOk [some IntKind.i64, some IntKind.i64, some IntKind.i64, some IntKind.i64] z31 fun i => z30 (0 + i)], R := AG.R { v := { i := [], b := [], t := [] }, sh := [], R := [] } ++ [1] }), t := AW.t (AG.v { v := { i := AW.i (AG.v { v := { i := [], b := [], t := [] }, sh := [], R := [] }), b := AW.b (AG.v { v := { i := [], b := [], t := [] }, sh := [], R := [] }), t := AW.t (AG.v { v := { i := [], b := [], t := [] }, sh := [], R := [] }) ++ [tabOf a8 fun i => z30 (0 + i)] }, sh := AG.sh { v := { i := [], b := [], t := [] }, sh := [], R := [] } ++ [decide (0 + a8 ≤ a8), ShapeOk [some IntKind.i64, some IntKind.i64, some IntKind.i64, some IntKind.i64] z31 fun i => z30 (0 + i)], R := AG.R { v := { i := [], b := [], t := [] }, sh := [], R := [] } ++ [1] }) }, sh := AG.sh { v := { i := AW.i (AG.v { v := { i := [], b := [], t := [] }, sh := [], R := [] }), b := AW.b (AG.v { v := { i := [], b := [], t := [] }, sh := [], R := [] }), t := AW.t (AG.v { v := { i := [], b := [], t := [] }, sh := [], R := [] }) ++ [tabOf a8 fun i => z30 (0 + i)] }, sh := AG.sh { v := { i := [], b := [], t := [] }, sh := [], R := [] } ++ [decide (0 + a8 ≤ a8), ShapeOk [some IntKind.i64, some IntKind.i64, some IntKind.i64, some IntKind.i64] z31 fun i => z30 (0 + i)], R := AG.R { v := { i := [], b := [], t := [] }, sh := [], R := [] } ++ [1] }, R := AG.R { v := { i := AW.i (AG.v { v := { i := [], b := [], t := [] }, sh := [], R := [] }), b := AW.b (AG.v { v := { i := [], b := [], t := [] }, sh := [], R := [] }), t := AW.t (AG.v { v := { i := [], b := [], t := [] }, sh := [], R := [] }) ++ [tabOf a8 fun i => z30 (0 + i)] }, sh := AG.sh { v := { i := [], b := [], t := [] }, sh := [], R := [] } ++ [decide (0 + a8 ≤ a8), ShapeOk [some IntKind.i64, some IntKind.i64, some IntKind.i64, some IntKind.i64] z31 fun i => z30 (0 + i)], R := AG.R { v := { i := [], b := [], t := [] }, sh := [], R := [] } ++ [1] } })))))))) (Ar.run .add .i64 p3 (a7 (0 + Int.toNat (Prod.fst (Prod.snd (AF.val (rdoF (AG.v { v := { i := AW.i (AG.v { v := { i := AW.i (AG.v { v := { i := [], b := [], t := [] }, sh := [], R := [] }), b := AW.b (AG.v { v := { i := [], b := [], t := [] }, sh := [], R := [] }), t := AW.t (AG.v { v := { i := [], b := [], t := [] }, sh := [], R := [] }) ++ [tabOf a8 fun i => z30 (0 + i)] }, sh := AG.sh { v := { i := [], b := [], t := [] }, sh := [], R := [] } ++ [decide (0 + a8 ≤ a8), ShapeOk [some IntKind.i64, some IntKind.i64, some IntKind.i64, some IntKind.i64] z31 fun i => z30 (0 + i)], R := AG.R { v := { i := [], b := [], t := [] }, sh := [], R := [] } ++ [1] }) ++ [p1], b := AW.b (AG.v { v := { i := AW.i (AG.v { v := { i := [], b := [], t := [] }, sh := [], R := [] }), b := AW.b (AG.v { v := { i := [], b := [], t := [] }, sh := [], R := [] }), t := AW.t (AG.v { v := { i := [], b := [], t := [] }, sh := [], R := [] }) ++ [tabOf a8 fun i => z30 (0 + i)] }, sh := AG.sh { v := { i := [], b := [], t := [] }, sh := [], R := [] } ++ [decide (0 + a8 ≤ a8), ShapeOk [some IntKind.i64, some IntKind.i64, some IntKind.i64, some IntKind.i64] z31 fun i => z30 (0 + i)], R := AG.R { v := { i := [], b := [], t := [] }, sh := [], R := [] } ++ [1] }), t := AW.t (AG.v { v := { i := AW.i (AG.v { v := { i := [], b := [], t := [] }, sh := [], R := [] }), b := AW.b (AG.v { v := { i := [], b := [], t := [] }, sh := [], R := [] }), t := AW.t (AG.v { v := { i := [], b := [], t := [] }, sh := [], R := [] }) ++ [tabOf a8 fun i => z30 (0 + i)] }, sh := AG.sh { v := { i := [], b := [], t := [] }, sh := [], R := [] } ++ [decide (0 + a8 ≤ a8), ShapeOk [some IntKind.i64, some IntKind.i64, some IntKind.i64, some IntKind.i64] z31 fun i => z30 (0 + i)], R := AG.R { v := { i := [], b := [], t := [] }, sh := [], R := [] } ++ [1] }) }, sh := AG.sh { v := { i := AW.i (AG.v { v := { i := [], b := [], t := [] }, sh := [], R := [] }), b := AW.b (AG.v { v := { i := [], b := [], t := [] }, sh := [], R := [] }), t := AW.t (AG.v { v := { i := [], b := [], t := [] }, sh := [], R := [] }) ++ [tabOf a8 fun i => z30 (0 + i)] }, sh := AG.sh { v := { i := [], b := [], t := [] }, sh := [], R := [] } ++ [decide (0 + a8 ≤ a8), ShapeOk [some IntKind.i64, some IntKind.i64, some IntKind.i64, some IntKind.i64] z31 fun i => z30 (0 + i)], R := AG.R { v := { i := [], b := [], t := [] }, sh := [], R := [] } ++ [1] }, R := AG.R { v := { i := AW.i (AG.v { v := { i := [], b := [], t := [] }, sh := [], R := [] }), b := AW.b (AG.v { v := { i := [], b := [], t := [] }, sh := [], R := [] }), t := AW.t (AG.v { v := { i := [], b := [], t := [] }, sh := [], R := [] }) ++ [tabOf a8 fun i => z30 (0 + i)] }, sh := AG.sh { v := { i := [], b := [], t := [] }, sh := [], R := [] } ++ [decide (0 + a8 ≤ a8), ShapeOk [some IntKind.i64, some IntKind.i64, some IntKind.i64, some IntKind.i64] z31 fun i => z30 (0 + i)], R := AG.R { v := { i := [], b := [], t := [] }, sh := [], R := [] } ++ [1] } }))))))))) [3, 4])))))))))))))))))))))
   (.must z0
   (.must z2
   (.must z8
   (.leaf (.done z9 []))))))))

noncomputable def rdjA (a0 : Bool) (a1 a2 a3 a4 : Int) (a5 : Nat) (a6 a7 : Nat → Int) (a8 : Nat) (a9 a10 a11 a12 : Nat → Int) (a13 : Nat) (a14 a15 : Nat → Int) : AF rdjN rdjR where
  code := rdjCode
  base := 3
  nt := 93
  m := 400
  un := []
  W := []
  h0 := [(0, ⟨.arg a5 2 (fun i => [.int .i64 (.x (a6 i)), .int .i64 (.x (a7 i))]) (fun _ => ⟨rfl, rfl⟩), 2, true, none⟩), (1, ⟨.arg a8 4 (fun i => [.int .i64 (.x (a9 i)), .int .i64 (.x (a10 i)), .int .i64 (.x (a11 i)), .int .i64 (.x (a12 i))]) (fun _ => ⟨rfl, rfl⟩), 4, true, none⟩), (2, ⟨.arg a13 2 (fun i => [.int .i64 (.x (a14 i)), .int .i64 (.x (a15 i))]) (fun _ => ⟨rfl, rfl⟩), 2, true, none⟩)]
  args := [.agg [.bool (.x a0), .int .i64 (.x a1), .int .i64 (.x a2), .int .i64 (.x a3), .int .i64 (.x a4), .sla 0 2 0 a5], .sla 1 4 0 a8, .sla 2 2 0 a13]
  res := (Try.f37).results.toList
  path := fun a => match a with
   | .n0 p0 p1 p2 p3 => [1, 1, 0, 1, 0]
  pd := fun a => match a with
   | .n0 p0 p1 p2 p3 => ⟨[(1, .sla 1 4 0 a8), (2, .sla 2 2 0 a13), (3, .ptr (some (3, 0))), (7, .int .i64 (.x p0)), (8, .ptr (some (4, 0))), (9, .int .i64 (.x p1))], [(3, ⟨.lit [.bool (.x a0), .int .i64 (.x a1), .int .i64 (.x a2), .int .i64 (.x a3), .int .i64 (.x a4), .sla 0 2 0 a5], 0, true, none⟩), (4, ⟨.lit [.int .i64 (.x p2), .int .i64 (.x p3)], 0, true, none⟩)], 5, []⟩
  D0 := rdjD0 a0 a1 a2 a3 a4 a5 a6 a7 a8 a9 a10 a11 a12 a13 a14 a15
  D := rdjD a0 a1 a2 a3 a4 a5 a6 a7 a8 a9 a10 a11 a12 a13 a14 a15
  rc := (fun v => .int .i64 (.x v))
  rh := (fun v => [])
  rn := (fun v => 3)
  rx := (fun v => [])
  rgo := (fun _ => none)
theorem rdjstart (a0 : Bool) (a1 a2 a3 a4 : Int) (a5 : Nat) (a6 a7 : Nat → Int) (a8 : Nat) (a9 a10 a11 a12 : Nat → Int) (a13 : Nat) (a14 a15 : Nat → Int) : AF.edgeOk (rdjA a0 a1 a2 a3 a4 a5 a6 a7 a8 a9 a10 a11 a12 a13 a14 a15) (ctxOf Try.prog memo0) (rdjD0 a0 a1 a2 a3 a4 a5 a6 a7 a8 a9 a10 a11 a12 a13 a14 a15) (AF.run0 (rdjA a0 a1 a2 a3 a4 a5 a6 a7 a8 a9 a10 a11 a12 a13 a14 a15) (ctxOf Try.prog (memoS 70 rofP rofF rofW rofH 1 (memoS 69 rdoP rdoF rdoW rdoH 1 (memoS 22 rdaP rdaF rdaW rdaH 1 memo0))))) := by unfold AF.edgeOk; kernel_rfl
theorem rdjnode0 (a0 : Bool) (a1 a2 a3 a4 : Int) (a5 : Nat) (a6 a7 : Nat → Int) (a8 : Nat) (a9 a10 a11 a12 : Nat → Int) (a13 : Nat) (a14 a15 : Nat → Int) (p0 p1 p2 p3 : Int) : AF.edgeOk (rdjA a0 a1 a2 a3 a4 a5 a6 a7 a8 a9 a10 a11 a12 a13 a14 a15) (ctxOf Try.prog memo0) (rdjD a0 a1 a2 a3 a4 a5 a6 a7 a8 a9 a10 a11 a12 a13 a14 a15 (.n0 p0 p1 p2 p3)) (AF.runN (rdjA a0 a1 a2 a3 a4 a5 a6 a7 a8 a9 a10 a11 a12 a13 a14 a15) (ctxOf Try.prog (memoS 70 rofP rofF rofW rofH 1 (memoS 69 rdoP rdoF rdoW rdoH 1 (memoS 22 rdaP rdaF rdaW rdaH 1 memo0)))) (.n0 p0 p1 p2 p3)) := by unfold AF.edgeOk; kernel_rfl
theorem rdjok (a0 : Bool) (a1 a2 a3 a4 : Int) (a5 : Nat) (a6 a7 : Nat → Int) (a8 : Nat) (a9 a10 a11 a12 : Nat → Int) (a13 : Nat) (a14 a15 : Nat → Int) : (rdjA a0 a1 a2 a3 a4 a5 a6 a7 a8 a9 a10 a11 a12 a13 a14 a15).Ok Try.prog (ctxOf Try.prog (memoS 70 rofP rofF rofW rofH 1 (memoS 69 rdoP rdoF rdoW rdoH 1 (memoS 22 rdaP rdaF rdaW rdaH 1 memo0)))) where
  regs := by kernel_rfl
  h0 := by kernel_rfl
  start := rdjstart a0 a1 a2 a3 a4 a5 a6 a7 a8 a9 a10 a11 a12 a13 a14 a15
  node := fun a _ => match a with
   | .n0 p0 p1 p2 p3 => rdjnode0 a0 a1 a2 a3 a4 a5 a6 a7 a8 a9 a10 a11 a12 a13 a14 a15 p0 p1 p2 p3
  pd := fun a => match a with
   | .n0 p0 p1 p2 p3 => ⟨(fa_cons rfl (fa_cons rfl (fa_cons rfl (fa_cons rfl (fa_cons rfl (fa_cons rfl fa_nil)))))), (fa_cons ⟨.inl (Nat.le_of_ble_eq_true rfl), rfl, rfl⟩ (fa_cons ⟨.inl (Nat.le_of_ble_eq_true rfl), rfl, rfl⟩ fa_nil)), fa_nil, rfl⟩
  le := fun a => match a with
   | .n0 p0 p1 p2 p3 => Nat.le_of_ble_eq_true rfl
  rd := fun v => ⟨⟨fa_nil, fa_nil, fa_nil, rfl⟩, rfl⟩
  wb := rfl
theorem rdjhR {ρ : Env} (a0 : Bool) (a1 a2 a3 a4 : Int) (a5 : Nat) (a6 a7 : Nat → Int) (a8 : Nat) (a9 a10 a11 a12 : Nat → Int) (a13 : Nat) (a14 a15 : Nat → Int) (hM : MemoOk Try.prog (ctxOf Try.prog (memoS 70 rofP rofF rofW rofH 1 (memoS 69 rdoP rdoF rdoW rdoH 1 (memoS 22 rdaP rdaF rdaW rdaH 1 memo0)))) ρ) : ∀ X a q n D, FxOk ρ X → X.base = (rdjA a0 a1 a2 a3 a4 a5 a6 a7 a8 a9 a10 a11 a12 a13 a14 a15).base → X.nt = (rdjA a0 a1 a2 a3 a4 a5 a6 a7 a8 a9 a10 a11 a12 a13 a14 a15).nt → X.W = (rdjA a0 a1 a2 a3 a4 a5 a6 a7 a8 a9 a10 a11 a12 a13 a14 a15).W → (rdjA a0 a1 a2 a3 a4 a5 a6 a7 a8 a9 a10 a11 a12 a13 a14 a15).rgo a = some q → q n = some D → (rdjA a0 a1 a2 a3 a4 a5 a6 a7 a8 a9 a10 a11 a12 a13 a14 a15).RangeOk Try.prog ρ X a D := AF.noRange rfl
theorem rdjctr {ρ : Env} (a0 : Bool) (a1 a2 a3 a4 : Int) (a5 : Nat) (a6 a7 : Nat → Int) (a8 : Nat) (a9 a10 a11 a12 : Nat → Int) (a13 : Nat) (a14 a15 : Nat → Int) {n : Nat} {v : rdjR} (hM : MemoOk Try.prog (ctxOf Try.prog (memoS 70 rofP rofF rofW rofH 1 (memoS 69 rdoP rdoF rdoW rdoH 1 (memoS 22 rdaP rdaF rdaW rdaH 1 memo0)))) ρ) (hv : (rdjA a0 a1 a2 a3 a4 a5 a6 a7 a8 a9 a10 a11 a12 a13 a14 a15).run n = some v) :
    Ctr Try.prog ρ 37 (rdjA a0 a1 a2 a3 a4 a5 a6 a7 a8 a9 a10 a11 a12 a13 a14 a15).args (rdjA a0 a1 a2 a3 a4 a5 a6 a7 a8 a9 a10 a11 a12 a13 a14 a15).H0 (rdjA a0 a1 a2 a3 a4 a5 a6 a7 a8 a9 a10 a11 a12 a13 a14 a15).base (rdjA a0 a1 a2 a3 a4 a5 a6 a7 a8 a9 a10 a11 a12 a13 a14 a15).W ((rdjA a0 a1 a2 a3 a4 a5 a6 a7 a8 a9 a10 a11 a12 a13 a14 a15).rc v) (putH (rdjA a0 a1 a2 a3 a4 a5 a6 a7 a8 a9 a10 a11 a12 a13 a14 a15).H0 ((rdjA a0 a1 a2 a3 a4 a5 a6 a7 a8 a9 a10 a11 a12 a13 a14 a15).rh v ++ (rdjA a0 a1 a2 a3 a4 a5 a6 a7 a8 a9 a10 a11 a12 a13 a14 a15).rx v)) ((rdjA a0 a1 a2 a3 a4 a5 a6 a7 a8 a9 a10 a11 a12 a13 a14 a15).rn v) :=
  AF.ctr try_ok hM (rdjok a0 a1 a2 a3 a4 a5 a6 a7 a8 a9 a10 a11 a12 a13 a14 a15) (fn := Try.f37) Try.func37 rfl rfl (Nat.le_of_ble_eq_true rfl) rfl (rdjhR a0 a1 a2 a3 a4 a5 a6 a7 a8 a9 a10 a11 a12 a13 a14 a15 hM) hv
theorem rdjmem {ρ : Env} : MemoOk Try.prog (ctxOf Try.prog (memoS 70 rofP rofF rofW rofH 1 (memoS 69 rdoP rdoF rdoW rdoH 1 (memoS 22 rdaP rdaF rdaW rdaH 1 memo0)))) ρ := (memoS_ok (rofknown rofmem) (memoS_ok (rdoknown rdomem) (memoS_ok (rdaknown rdamem) memo0_ok)))
abbrev rdjP : List AQ := [.agg [.bool, .int .i64, .int .i64, .int .i64, .int .i64, .rows [some .i64, some .i64]], .rows [some .i64, some .i64, some .i64, some .i64], .rows [some .i64, some .i64]]
noncomputable def rdjF (v : AW) : AF rdjN rdjR := rdjA (v.b.getD 0 false) (v.i.getD 0 0) (v.i.getD 1 0) (v.i.getD 2 0) (v.i.getD 3 0) (v.t.getD 0 .none).n ((v.t.getD 0 .none).c 0) ((v.t.getD 0 .none).c 1) (v.t.getD 1 .none).n ((v.t.getD 1 .none).c 0) ((v.t.getD 1 .none).c 1) ((v.t.getD 1 .none).c 2) ((v.t.getD 1 .none).c 3) (v.t.getD 2 .none).n ((v.t.getD 2 .none).c 0) ((v.t.getD 2 .none).c 1)
noncomputable def rdjW : rdjR → CV := fun v => .int .i64 (.x v)
noncomputable def rdjH : rdjR → List (Nat × Blk) := fun v => []
instance : Inhabited rdjR := ⟨0⟩
theorem rdjknown {ρ : Env} (hM : MemoOk Try.prog (ctxOf Try.prog (memoS 70 rofP rofF rofW rofH 1 (memoS 69 rdoP rdoF rdoW rdoH 1 (memoS 22 rdaP rdaF rdaW rdaH 1 memo0)))) ρ) : KnownS Try.prog ρ 37 rdjP rdjF rdjW rdjH 3 where
  fn := ⟨Try.f37, Try.func37, rfl⟩
  le := Nat.le_of_ble_eq_true rfl
  full := fun r => rfl
  rg := fun r => rfl
  hg := fun r => fa_nil
  ctr := fun v n r h => rdjctr (v.b.getD 0 false) (v.i.getD 0 0) (v.i.getD 1 0) (v.i.getD 2 0) (v.i.getD 3 0) (v.t.getD 0 .none).n ((v.t.getD 0 .none).c 0) ((v.t.getD 0 .none).c 1) (v.t.getD 1 .none).n ((v.t.getD 1 .none).c 0) ((v.t.getD 1 .none).c 1) ((v.t.getD 1 .none).c 2) ((v.t.getD 1 .none).c 3) (v.t.getD 2 .none).n ((v.t.getD 2 .none).c 0) ((v.t.getD 2 .none).c 1) hM h
end Go.Proofs.Ythagjhadjpangaa.Cx

/- Package die: Judge, the program's and the reference's. -/
namespace Go.Proofs.Ythagjhadjpangaa.Cx
set_option linter.unusedVariables false
set_option linter.unusedSimpArgs false
set_option maxRecDepth 100000
set_option maxHeartbeats 4000000
open Go Go.RowKit
/-- The piece p is sure with the setting before it. -/
def SureW (tl th : Int → Nat → Int) (n : Nat) (F G : Nat → Int) (p : Int) : Prop :=
  ∃ i : Nat, i < n ∧ F i ≤ p ∧ (i + 1 < n → p < F (i + 1)) ∧ tl (F i) (p - F i).toNat ≤ G i ∧ G i ≤ th (F i) (p - F i).toNat
theorem same_setting {n : Nat} {F : Nat → Int} {T p : Int} (ho : OrdS n F T) {i j : Nat} (hi : i < n) (hj : j < n) (h1 : F i ≤ p) (h2 : i + 1 < n → p < F (i + 1)) (h3 : F j ≤ p) (h4 : j + 1 < n → p < F (j + 1)) : i = j := by
  rcases Nat.lt_trichotomy i j with q | q | q
  · have a := h2 (by omega)
    by_cases he : i + 1 = j
    · rw [he] at a; omega
    · have := ho.asc (i := i + 1) j (by omega) hj
      omega
  · exact q
  · have a := h4 (by omega)
    by_cases he : j + 1 = i
    · rw [he] at a; omega
    · have := ho.asc (i := j + 1) i (by omega) hi
      omega
theorem just_pairs {t : Int} {tl th : Nat → Int} {m : Nat} : LoM t tl m ≤ HiM t th m ↔ ∀ j, j < m → tl j ≤ t ∧ t ≤ th j := by
  have a := LoM_mono (t := t) (tl := tl) (i := 0) m (by omega)
  have b := HiM_mono (t := t) (th := th) (i := 0) m (by omega)
  have c := LoM_le (t := t) (x := t) (tl := tl) m
  have d := HiM_ge (t := t) (x := t) (th := th) m
  simp only [LoM] at a
  simp only [HiM] at b
  constructor
  · intro h j hj
    exact ⟨(c.1 (by omega)).2 j hj, (d.1 (by omega)).2 j hj⟩
  · intro h
    have c' := c.2 ⟨Int.le_refl _, fun j hj => (h j hj).1⟩
    have d' := d.2 ⟨Int.le_refl _, fun j hj => (h j hj).2⟩
    omega
/-- A setting that goes over J pieces. -/
theorem just_reach {t : Int} {tl th : Nat → Int} {J : Nat} {d : Int} (j1 : (J : Int) ≤ d) (j2 : (J : Int) < d → LoM t tl (J + 1) > HiM t th (J + 1)) (j3 : 0 < J → LoM t tl J ≤ HiM t th J) : (∀ j, j < J → tl j ≤ t ∧ t ≤ th j) ∧ ((J : Int) < d → ¬ (tl J ≤ t ∧ t ≤ th J)) := by
  have a : ∀ j, j < J → tl j ≤ t ∧ t ≤ th j := fun j hj => just_pairs.1 (j3 (by omega)) j hj
  refine ⟨a, fun hd hx => ?_⟩
  have b := j2 hd
  have c := (just_pairs (t := t) (tl := tl) (th := th) (m := J + 1)).2 fun j hj => by
    by_cases he : j < J
    · exact a j he
    · obtain rfl : j = J := by omega
      exact hx
  omega
section
variable {a0 : Bool} {a1 a2 a3 a4 : Int} {a5 : Nat} {a6 a7 : Nat → Int} {a8 : Nat} {a9 a10 a11 a12 : Nat → Int} {a13 : Nat} {a14 a15 : Nat → Int}
/-- What Judge yields. -/
def JudE (a0 : Bool) (a1 a2 a3 a4 : Int) (a5 : Nat) (a6 a7 : Nat → Int) (a8 : Nat) (a9 a10 a11 a12 : Nat → Int) (a13 : Nat) (a14 a15 : Nat → Int) (v : Int × Int) : Prop :=
  ∃ e, CkS a5 a8 (ToolOk a5 a6 a7 a1 a2 a3 a4) a9 a10 a11 a12 e ∧ (e ≠ 0 ∧ v = (0, e) ∨ e = 0 ∧ (a13 > 1000 ∧ v = (0, 5) ∨ a13 ≤ 1000 ∧ (¬ SetS a13 a14 a15 (PS a9 a8) ∧ v = (0, 2) ∨
    SetS a13 a14 a15 (PS a9 a8) ∧ ∃ r, FstN (SureW (tlP a0 a1 a3 a6 a7 a10 a9 a11 a8) (thP a0 a2 a4 a6 a7 a10 a9 a12 a8) a13 a14 a15) (PS a9 a8) r ∧ v = (r, 0))))
theorem dju_val (hn : a5 ≤ 10000) (hm : a8 ≤ 10000) (hk : a13 ≤ 10000) : AF.fin (djuA a0 a1 a2 a3 a4 a5 a6 a7 a8 a9 a10 a11 a12 a13 a14 a15) = true ∧ JudE a0 a1 a2 a3 a4 a5 a6 a7 a8 a9 a10 a11 a12 a13 a14 a15 (AF.val (djuA a0 a1 a2 a3 a4 a5 a6 a7 a8 a9 a10 a11 a12 a13 a14 a15)) := by
  obtain ⟨hf, e, hC, hv⟩ := dsh_val (a0 := a0) (a1 := a1) (a2 := a2) (a3 := a3) (a4 := a4) (a5 := a5) (a6 := a6) (a7 := a7) (a8 := a8) (a9 := a9) (a10 := a10) (a11 := a11) (a12 := a12) hn hm
  refine AF.val_sat (E := JudE a0 a1 a2 a3 a4 a5 a6 a7 a8 a9 a10 a11 a12 a13 a14 a15) (Inv := fun b => match b with | .n0 p p0 p1 p2 p3 p4 p5 p6 p7 => (p0 = a0 ∧ p1 = a1 ∧ p2 = a2 ∧ p3 = a3 ∧ p4 = a4 ∧ p5 = a5 ∧ p6 = a8 ∧ p7 = PS a9 a8) ∧ e = 0 ∧ a13 ≤ 1000 ∧ SetS a13 a14 a15 (PS a9 a8) ∧ 0 ≤ p ∧ p ≤ a13 ∧ ∀ q, 0 ≤ q → q < (if p < a13 then a14 p.toNat else PS a9 a8) → SureW (tlP a0 a1 a3 a6 a7 a10 a9 a11 a8) (thP a0 a2 a4 a6 a7 a10 a9 a12 a8) a13 a14 a15 q)
    (fun b => match b with | .n0 p p0 p1 p2 p3 p4 p5 p6 p7 => (a13 - p).toNat) (fun _ => rfl) (fun a hI => ?_) ?_
  · cases a with
    | n0 p p0 p1 p2 p3 p4 p5 p6 p7 =>
      obtain ⟨⟨rfl, rfl, rfl, rfl, rfl, rfl, rfl, rfl⟩, rfl, hk', ho, g0, g1, g2⟩ := hI
      have job := hC.job
      have r := PS_rng job.pc p6 (Nat.le_refl _)
      have few := job.few
      have ans : ∀ r, FstN (SureW (tlP p0 p1 p3 a6 a7 a10 a9 a11 p6) (thP p0 p2 p4 a6 a7 a10 a9 a12 p6) a13 a14 a15) (PS a9 p6) r → JudE p0 p1 p2 p3 p4 p5 a6 a7 p6 a9 a10 a11 a12 a13 a14 a15 (r, 0) := fun r hr => ⟨0, hC, .inr ⟨rfl, .inr ⟨hk', .inr ⟨ho, r, hr, rfl⟩⟩⟩⟩
      show DD.sat _ _ (djuD p0 p1 p2 p3 p4 p5 a6 a7 p6 a9 a10 a11 a12 a13 a14 a15 (.n0 p p0 p1 p2 p3 p4 p5 p6 (PS a9 p6)))
      unfold djuD
      by_cases hq : p < a13
      · have e1 : Ar.run .add .i64 p 1 = p + 1 := arAdd (by omega)
        have b1 := ho.1.1 p.toNat (by omega)
        rw [if_pos hq] at g2
        have e2 : (p + 1).toNat = p.toNat + 1 := by omega
        have go : ∀ nx, a14 p.toNat ≤ nx → nx ≤ PS a9 p6 → (nx = if p + 1 < a13 then a14 (p + 1).toNat else PS a9 p6) → AF.fin (drcA p0 p1 p2 p3 p4 p5 a6 a7 p6 a9 a10 a11 a12 (PS a9 p6) (a15 p.toNat) (a15 p.toNat) (a14 p.toNat) nx) = true ∧ ∃ x y z, AF.val (drcA p0 p1 p2 p3 p4 p5 (fun i => a6 i) (fun i => a7 i) p6 (fun i => a9 i) (fun i => a10 i) (fun i => a11 i) (fun i => a12 i) (PS a9 p6) (a15 p.toNat) (a15 p.toNat) (a14 p.toNat) nx) = (x, y, z) ∧
            (z < nx → FstN (SureW (tlP p0 p1 p3 a6 a7 a10 a9 a11 p6) (thP p0 p2 p4 a6 a7 a10 a9 a12 p6) a13 a14 a15) (PS a9 p6) z) ∧ (nx ≤ z → ∀ q, 0 ≤ q → q < nx → SureW (tlP p0 p1 p3 a6 a7 a10 a9 a11 p6) (thP p0 p2 p4 a6 a7 a10 a9 a12 p6) a13 a14 a15 q) := fun nx n1 n2 hnx => by
          obtain ⟨rf, x, y, z, rv, J, j1, j2, j3, rfl, rfl, rfl⟩ := drc_gen (a0 := p0) (a13 := PS a9 p6) (a14 := a15 p.toNat) (a15 := a15 p.toNat) (a16 := a14 p.toNat) (a17 := nx) job b1.1 n1 n2
          obtain ⟨s1, s2⟩ := just_reach j1 j2 j3
          have lim : ∀ q, q < nx → p.toNat + 1 < a13 → q < a14 (p.toNat + 1) := fun q hq1 hx => by
            rw [if_pos (by omega), e2] at hnx
            omega
          have sure : ∀ q, 0 ≤ q → q < a14 p.toNat + J → q < nx → SureW (tlP p0 p1 p3 a6 a7 a10 a9 a11 p6) (thP p0 p2 p4 a6 a7 a10 a9 a12 p6) a13 a14 a15 q := fun q q0 q1 q2 => by
            by_cases hl : q < a14 p.toNat
            · exact g2 q q0 hl
            · have s := s1 (q - a14 p.toNat).toNat (by omega)
              exact ⟨p.toNat, by omega, by omega, lim q q2, s.1, s.2⟩
          refine ⟨rf, _, _, _, rv, fun hz => ⟨by omega, by omega, fun q q0 q1 => sure q q0 q1 (by omega), fun hz2 => ?_⟩, fun hz q q0 q1 => sure q q0 (by omega) q1⟩
          rintro ⟨i, i1, i2, i3, i4, i5⟩
          obtain rfl := same_setting ho.1 (i := p.toNat) (j := i) (p := a14 p.toNat + J) (by omega) i1 (by omega) (lim _ hz) i2 i3
          have e3 : (a14 p.toNat + J - a14 p.toNat).toNat = J := by omega
          rw [e3] at i4 i5
          exact s2 (by omega) ⟨i4, i5⟩
        by_cases hq2 : p + 1 < a13
        · have b2 := ho.1.1 (p.toNat + 1) (by omega)
          have b3 := ho.1.2 p.toNat (by omega)
          obtain ⟨rf, x, y, z, rv, z1, z2⟩ := go (a14 (p.toNat + 1)) (by omega) (by omega) (by rw [if_pos hq2, e2])
          simp only [DD.sat, Nat.zero_add, cmLss, cmLssF, cmLeq, cmLeqF, cmGtr, cmGtrF, cmGeq, cmGeqF, cmEql, cmEqlF, cmNeq, cmNeqF, decide_eq_true_eq, Bool.not_eq_true', Bool.not_eq_false', e1, e2, rv]
          refine ⟨fun _ => ⟨g0, hq, by omega, fun _ => ⟨by omega, hq2, by omega, Nat.le_refl _, shape_ok fun i _ => rfl, Nat.le_refl _, shape_ok fun i _ => rfl, rf, fun hz => ans z (z1 hz), fun hz => ⟨⟨(by repeat' (first | trivial | exact rfl | apply And.intro)), trivial, hk', ho, by omega, by omega, ?_⟩, by omega⟩⟩, fun hx => by omega⟩, fun hx => by omega⟩
          rw [if_pos hq2]
          exact z2 hz
        · obtain ⟨rf, x, y, z, rv, z1, z2⟩ := go (PS a9 p6) (by omega) (Int.le_refl _) (by rw [if_neg hq2])
          simp only [DD.sat, Nat.zero_add, cmLss, cmLssF, cmLeq, cmLeqF, cmGtr, cmGtrF, cmGeq, cmGeqF, cmEql, cmEqlF, cmNeq, cmNeqF, decide_eq_true_eq, Bool.not_eq_true', Bool.not_eq_false', e1, e2, rv]
          refine ⟨fun _ => ⟨g0, hq, by omega, fun hx => by omega, fun _ => ⟨Nat.le_refl _, shape_ok fun i _ => rfl, Nat.le_refl _, shape_ok fun i _ => rfl, rf, fun hz => ans z (z1 hz), fun hz => ⟨⟨(by repeat' (first | trivial | exact rfl | apply And.intro)), trivial, hk', ho, by omega, by omega, ?_⟩, by omega⟩⟩⟩, fun hx => by omega⟩
          rw [if_neg hq2]
          exact z2 hz
      · rw [if_neg hq] at g2
        simp only [DD.sat, Nat.zero_add, cmLss, cmLssF, cmLeq, cmLeqF, cmGtr, cmGtrF, cmGeq, cmGeqF, cmEql, cmEqlF, cmNeq, cmNeqF, decide_eq_true_eq, Bool.not_eq_true', Bool.not_eq_false']
        exact ⟨fun hx => by omega, fun _ => ans (PS a9 p6) ⟨by omega, Int.le_refl _, g2, fun hx => by omega⟩⟩
  · show DD.sat _ _ (djuD0 a0 a1 a2 a3 a4 a5 a6 a7 a8 a9 a10 a11 a12 a13 a14 a15)
    unfold djuD0
    rcases hv with ⟨he, hv⟩ | ⟨rfl, hv⟩
    · have hv' : AF.val (dshA a0 a1 a2 a3 a4 a5 (fun i => a6 i) (fun i => a7 i) a8 (fun i => a9 i) (fun i => a10 i) (fun i => a11 i) (fun i => a12 i)) = .r0 e := hv
      simp only [DD.sat, Nat.zero_add, cmLss, cmLssF, cmLeq, cmLeqF, cmGtr, cmGtrF, cmGeq, cmGeqF, cmEql, cmEqlF, cmNeq, cmNeqF, decide_eq_true_eq, Bool.not_eq_true', Bool.not_eq_false', hv', dshw8]
      refine ⟨Nat.le_refl _, shape_ok fun i _ => rfl, Nat.le_refl _, shape_ok fun i _ => rfl, hf, fun _ => ⟨e, hC, .inl ⟨he, rfl⟩⟩, fun hx => absurd hx he⟩
    · have hv' : AF.val (dshA a0 a1 a2 a3 a4 a5 (fun i => a6 i) (fun i => a7 i) a8 (fun i => a9 i) (fun i => a10 i) (fun i => a11 i) (fun i => a12 i)) = .r1 a0 a1 a2 a3 a4 a5 a8 (PS a9 a8) := hv
      have job := hC.job
      have r := PS_rng job.pc a8 (Nat.le_refl _)
      have few := job.few
      simp only [DD.sat, Nat.zero_add, cmLss, cmLssF, cmLeq, cmLeqF, cmGtr, cmGtrF, cmGeq, cmGeqF, cmEql, cmEqlF, cmNeq, cmNeqF, decide_eq_true_eq, Bool.not_eq_true', Bool.not_eq_false', hv', dshw0, dshw1, dshw2, dshw3, dshw4, dshw5, dshw6, dshw7, dshw8]
      refine ⟨Nat.le_refl _, shape_ok fun i _ => rfl, Nat.le_refl _, shape_ok fun i _ => rfl, hf, fun hx => absurd rfl hx, fun _ => ⟨fun h => ⟨0, hC, .inr ⟨rfl, .inl ⟨by omega, rfl⟩⟩⟩, fun h1 => ?_⟩⟩
      obtain ⟨of, ov⟩ := dvp_val (a0 := a0) (a1 := a1) (a2 := a2) (a3 := a3) (a4 := a4) (a5 := a5) (a6 := a6) (a7 := a7) (a8 := a8) (a9 := a9) (a10 := a10) (a11 := a11) (a12 := a12) (a13 := PS a9 a8) (a14 := a13) (a15 := a14) (a16 := a15) (by omega) (by omega)
      have ovE : AF.val (dvpA a0 a1 a2 a3 a4 a5 (fun i => a6 i) (fun i => a7 i) a8 (fun i => a9 i) (fun i => a10 i) (fun i => a11 i) (fun i => a12 i) (PS a9 a8) a13 (fun i => a14 i) (fun i => a15 i)) = true ↔ SetS a13 a14 a15 (PS a9 a8) := ov
      have none : AF.val (dvpA a0 a1 a2 a3 a4 a5 (fun i => a6 i) (fun i => a7 i) a8 (fun i => a9 i) (fun i => a10 i) (fun i => a11 i) (fun i => a12 i) (PS a9 a8) a13 (fun i => a14 i) (fun i => a15 i)) = true → (a13 = 0 ∨ 0 < a13 ∧ a14 0 > 0) → JudE a0 a1 a2 a3 a4 a5 a6 a7 a8 a9 a10 a11 a12 a13 a14 a15 (0, 0) := fun hb hz => ⟨0, hC, .inr ⟨rfl, .inr ⟨by omega, .inr ⟨ovE.1 hb, 0, ⟨Int.le_refl _, by omega, fun k k0 k1 => by omega, fun _ => ?_⟩, rfl⟩⟩⟩⟩
      · refine ⟨Nat.le_refl _, shape_ok fun i _ => rfl, Nat.le_refl _, shape_ok fun i _ => rfl, Nat.le_refl _, shape_ok fun i _ => rfl, of, fun hb => ⟨0, hC, .inr ⟨rfl, .inr ⟨by omega, .inl ⟨fun k => ?_, rfl⟩⟩⟩⟩, fun hb => ⟨fun hz => none hb (.inl (by omega)), fun hz => ⟨trivial, by omega, by omega, fun h0 => none hb (.inr ⟨by omega, h0⟩), fun h0 => ⟨(by repeat' (first | trivial | exact rfl | apply And.intro)), trivial, by omega, ovE.1 hb, Int.le_refl _, by omega, fun q q0 q1 => ?_⟩⟩⟩⟩
        · rw [ovE.2 k] at hb
          cases hb
        · rw [if_pos (by omega)] at q1
          have e0 : (0 : Int).toNat = 0 := rfl
          rw [e0] at q1 h0
          omega
      · rintro ⟨i, i1, i2, i3, i4, i5⟩
        rcases hz with hz | ⟨hz, h0⟩
        · omega
        · by_cases he : i = 0
          · subst he; omega
          · have := (ovE.1 hb).1.asc (i := 0) i (by omega) i1
            omega
theorem rdj_val (h : JobOk a1 a2 a3 a4 a5 a6 a7 a8 a9 a10 a11 a12) (hn : a13 ≤ 10000) (hs : SetS a13 a14 a15 (PS a9 a8)) : AF.fin (rdjA a0 a1 a2 a3 a4 a5 a6 a7 a8 a9 a10 a11 a12 a13 a14 a15) = true ∧ FstN (SureW (tlP a0 a1 a3 a6 a7 a10 a9 a11 a8) (thP a0 a2 a4 a6 a7 a10 a9 a12 a8) a13 a14 a15) (PS a9 a8) (AF.val (rdjA a0 a1 a2 a3 a4 a5 a6 a7 a8 a9 a10 a11 a12 a13 a14 a15)) := by
  obtain ⟨af, av⟩ := rda_val (a0 := a8) (a1 := a9) (a2 := a10) (a3 := a11) (a4 := a12) h.few h.pc
  have avE : AF.val (rdaA a8 (fun i => a9 i) (fun i => a10 i) (fun i => a11 i) (fun i => a12 i)) = _ := av
  have r := PS_rng h.pc a8 (Nat.le_refl _)
  have few := h.few
  obtain ⟨ho, ht⟩ := hs
  obtain ⟨_, _, s1, s2⟩ := h.tool
  unfold VOk at s1 s2
  refine AF.val_sat (E := FstN (SureW (tlP a0 a1 a3 a6 a7 a10 a9 a11 a8) (thP a0 a2 a4 a6 a7 a10 a9 a12 a8) a13 a14 a15) (PS a9 a8))
    (Inv := fun b => match b with | .n0 k p w1 w2 => -1 ≤ k ∧ k < a13 ∧ 0 ≤ p ∧ p ≤ PS a9 a8 ∧ (0 ≤ k → a14 k.toNat ≤ p ∧ w1 = WSum (gW a6 a10 a9 a8) (a14 k.toNat) (p - a14 k.toNat).toNat ∧ w2 = WSum (gW a7 a10 a9 a8) (a14 k.toNat) (p - a14 k.toNat).toNat) ∧ (k + 1 < a13 → p ≤ a14 (k + 1).toNat) ∧ ∀ q, 0 ≤ q → q < p → SureW (tlP a0 a1 a3 a6 a7 a10 a9 a11 a8) (thP a0 a2 a4 a6 a7 a10 a9 a12 a8) a13 a14 a15 q)
    (fun b => match b with | .n0 k p w1 w2 => (PS a9 a8 - p).toNat) (fun _ => rfl) (fun a hI => ?_) ?_
  · cases a with
    | n0 k p w1 w2 =>
      obtain ⟨g0, g1, g2, g3, g4, g5, g6⟩ := hI
      show DD.sat _ _ (rdjD a0 a1 a2 a3 a4 a5 a6 a7 a8 a9 a10 a11 a12 a13 a14 a15 (.n0 k p w1 w2))
      unfold rdjD
      have e1 : Ar.run .add .i64 k 1 = k + 1 := arAdd (by omega)
      by_cases hp : p < PS a9 a8
      · have o := h.rdo (x := p) g2 hp
        have t := h.at' (x := p) g2 hp
        have oE : AF.val (rdoA a8 (fun i => a9 i) (fun i => a10 i) (fun i => a11 i) (fun i => a12 i) p) = _ := o.2
        have e2 : Ar.run .add .i64 p 1 = p + 1 := arAdd (by omega)
        -- one setting, this piece
        have chk : ∀ (m : Nat) (v1 v2 : Int), m < a13 → a14 m ≤ p → (m + 1 < a13 → p < a14 (m + 1)) → v1 = WSum (gW a6 a10 a9 a8) (a14 m) (p - a14 m).toNat → v2 = WSum (gW a7 a10 a9 a8) (a14 m) (p - a14 m).toNat →
            AF.fin (rofA a0 a1 a2 a3 a4 a5 a6 a7 v1 v2) = true ∧ ∃ lo hi, AF.val (rofA a0 a1 a2 a3 a4 a5 (fun i => a6 i) (fun i => a7 i) v1 v2) = (lo, hi) ∧ Ar.run .add .i64 (a15 m) lo = a15 m + lo ∧ Ar.run .add .i64 (a15 m) hi = a15 m + hi ∧
            ((a15 m + lo < a11 (ordK a9 a8 p) ∨ a15 m + hi > a12 (ordK a9 a8 p)) → ¬ SureW (tlP a0 a1 a3 a6 a7 a10 a9 a11 a8) (thP a0 a2 a4 a6 a7 a10 a9 a12 a8) a13 a14 a15 p) ∧
            (a11 (ordK a9 a8 p) ≤ a15 m + lo → a15 m + hi ≤ a12 (ordK a9 a8 p) → SureW (tlP a0 a1 a3 a6 a7 a10 a9 a11 a8) (thP a0 a2 a4 a6 a7 a10 a9 a12 a8) a13 a14 a15 p) ∧
            (Ar.run .add .i64 v1 (a6 (a10 (ordK a9 a8 p)).toNat) = WSum (gW a6 a10 a9 a8) (a14 m) (p + 1 - a14 m).toNat ∧ Ar.run .add .i64 v2 (a7 (a10 (ordK a9 a8 p)).toNat) = WSum (gW a7 a10 a9 a8) (a14 m) (p + 1 - a14 m).toNat) := fun m v1 v2 m1 m2 m3 hv1 hv2 => by
          have bm := ho.1 m m1
          have bt := ht m (by omega)
          have w := h.wsum (f := a14 m) (j := (p - a14 m).toNat) bm.1 (by omega)
          rw [← hv1, ← hv2] at w
          obtain ⟨rf, rv⟩ := rof_ok (a0 := a0) (a5 := a5) (a6 := a6) (a7 := a7) (a8 := v1) (a9 := v2) s1 s2 w.1 w.2.1
          have ep : a14 m + ((p - a14 m).toNat : Nat) = p := by omega
          have el : tlP a0 a1 a3 a6 a7 a10 a9 a11 a8 (a14 m) (p - a14 m).toNat = a11 (ordK a9 a8 p) - a1 - gL a0 v1 v2 - a3 := by unfold tlP; rw [ep, ← hv1, ← hv2]
          have eh : thP a0 a2 a4 a6 a7 a10 a9 a12 a8 (a14 m) (p - a14 m).toNat = a12 (ordK a9 a8 p) - a2 - gH a0 v1 v2 - a4 := by unfold thP; rw [ep, ← hv1, ← hv2]
          have gb : (-40000000000 ≤ gL a0 v1 v2 ∧ gL a0 v1 v2 ≤ 40000000000) ∧ (-40000000000 ≤ gH a0 v1 v2 ∧ gH a0 v1 v2 ≤ 40000000000) := by
            unfold gL gH; cases a0 <;> simp only [cond_true, cond_false] <;> omega
          refine ⟨rf, _, _, rv, arAdd (by omega), arAdd (by omega), fun hb => ?_, fun h1 h2 => ⟨m, m1, m2, m3, by rw [el]; omega, by rw [eh]; omega⟩, ?_, ?_⟩
          · rintro ⟨i, i1, i2, i3, i4, i5⟩
            obtain rfl := same_setting ho m1 i1 m2 m3 i2 i3
            rw [el] at i4
            rw [eh] at i5
            omega
          · have t6 := t.2.2.2
            unfold gW at t6
            rw [arAdd (by omega), show (p + 1 - a14 m).toNat = (p - a14 m).toNat + 1 by omega, WSum, ep, ← hv1]
            rfl
          · have t6 := t.2.2.2
            unfold gW at t6
            rw [arAdd (by omega), show (p + 1 - a14 m).toNat = (p - a14 m).toNat + 1 by omega, WSum, ep, ← hv2]
            rfl
        have stop : ¬ SureW (tlP a0 a1 a3 a6 a7 a10 a9 a11 a8) (thP a0 a2 a4 a6 a7 a10 a9 a12 a8) a13 a14 a15 p → FstN (SureW (tlP a0 a1 a3 a6 a7 a10 a9 a11 a8) (thP a0 a2 a4 a6 a7 a10 a9 a12 a8) a13 a14 a15) (PS a9 a8) p := fun hb => ⟨g2, g3, g6, fun _ => hb⟩
        have more : SureW (tlP a0 a1 a3 a6 a7 a10 a9 a11 a8) (thP a0 a2 a4 a6 a7 a10 a9 a12 a8) a13 a14 a15 p → ∀ q, 0 ≤ q → q < p + 1 → SureW (tlP a0 a1 a3 a6 a7 a10 a9 a11 a8) (thP a0 a2 a4 a6 a7 a10 a9 a12 a8) a13 a14 a15 q := fun hb q q0 q1 => by
          by_cases he : q < p
          · exact g6 q q0 he
          · obtain rfl : q = p := by omega
            exact hb
        by_cases hx : k + 1 < a13 ∧ a14 (k + 1).toNat = p
        · obtain ⟨hx, hx2⟩ := hx
          have z : p - a14 (k + 1).toNat = 0 := by omega
          obtain ⟨rf, lo, hi, rv, r1, r2, r3, r4, r5⟩ := chk (k + 1).toNat 0 0 (by omega) (by omega) (fun hy => by have := ho.2 (k + 1).toNat hy; omega) (by rw [z]; rfl) (by rw [z]; rfl)
          simp only [DD.sat, Nat.zero_add, cmLss, cmLssF, cmLeq, cmLeqF, cmGtr, cmGtrF, cmGeq, cmGeqF, cmEql, cmEqlF, cmNeq, cmNeqF, decide_eq_true_eq, Bool.not_eq_true', Bool.not_eq_false', avE, oE, e1, e2, rv, r1, r2]
          refine ⟨Nat.le_refl _, shape_ok fun i _ => rfl, af, fun _ => ⟨fun _ => ⟨by omega, hx, by omega, fun _ => ⟨fun hy => by omega, fun _ => ⟨Nat.le_refl _, shape_ok fun i _ => rfl, o.1, Nat.le_refl _, shape_ok fun i _ => rfl, rf, by omega, hx, by omega, fun c => stop (r3 (.inl c)), fun c => ⟨by omega, hx, by omega, fun d => stop (r3 (.inr d)), fun d => ⟨t.2.1.1, t.2.1.2, by omega, ⟨by omega, by omega, by omega, by omega, fun _ => ⟨by omega, ?_, ?_⟩, fun hy => ?_, more (r4 c d)⟩, by omega⟩⟩⟩⟩, fun hne => absurd hx2 hne⟩, fun hy => by omega⟩, fun hy => by omega⟩
          · show Ar.run .add .i64 0 (a6 (AF.val (rdoA a8 a9 a10 a11 a12 p)).2.1.toNat) = _
            rw [o.2]; exact r5.1
          · show Ar.run .add .i64 0 (a7 (AF.val (rdoA a8 a9 a10 a11 a12 p)).2.1.toNat) = _
            rw [o.2]; exact r5.2
          · have := ho.2 (k + 1).toNat (by omega)
            rw [show (k + 1 + 1).toNat = (k + 1).toNat + 1 by omega]
            omega
        · by_cases hk : k < 0
          · have no : ¬ SureW (tlP a0 a1 a3 a6 a7 a10 a9 a11 a8) (thP a0 a2 a4 a6 a7 a10 a9 a12 a8) a13 a14 a15 p := by
              rintro ⟨i, i1, i2, i3, _⟩
              obtain rfl : k = -1 := by omega
              have e0 : ((-1 : Int) + 1).toNat = 0 := rfl
              rw [e0] at g5 hx
              have a := g5 (by omega)
              have b : a14 0 ≠ p := fun hb => hx ⟨by omega, hb⟩
              by_cases he : i = 0
              · subst he; omega
              · have := ho.asc (i := 0) i (by omega) i1
                omega
            simp only [DD.sat, Nat.zero_add, cmLss, cmLssF, cmLeq, cmLeqF, cmGtr, cmGtrF, cmGeq, cmGeqF, cmEql, cmEqlF, cmNeq, cmNeqF, decide_eq_true_eq, Bool.not_eq_true', Bool.not_eq_false', avE, e1]
            exact ⟨Nat.le_refl _, shape_ok fun i _ => rfl, af, fun _ => ⟨fun hy => ⟨by omega, hy, by omega, fun hz => absurd ⟨hy, hz⟩ hx, fun _ => ⟨fun _ => stop no, fun hz => by omega⟩⟩, fun hy => ⟨fun _ => stop no, fun hz => by omega⟩⟩, fun hy => by omega⟩
          · have lim : k + 1 < a13 → p < a14 (k + 1).toNat := fun hy => by
              have a := g5 hy
              have b : a14 (k + 1).toNat ≠ p := fun hb => hx ⟨hy, hb⟩
              omega
            obtain ⟨k1, k2, k3⟩ := g4 (by omega)
            obtain ⟨rf, lo, hi, rv, r1, r2, r3, r4, r5⟩ := chk k.toNat w1 w2 (by omega) k1 (fun hy => by
              have := lim (by omega)
              rw [show (k + 1).toNat = k.toNat + 1 by omega] at this
              exact this) k2 k3
            simp only [DD.sat, Nat.zero_add, cmLss, cmLssF, cmLeq, cmLeqF, cmGtr, cmGtrF, cmGeq, cmGeqF, cmEql, cmEqlF, cmNeq, cmNeqF, decide_eq_true_eq, Bool.not_eq_true', Bool.not_eq_false', avE, oE, e1, e2, rv, r1, r2]
            refine ⟨Nat.le_refl _, shape_ok fun i _ => rfl, af, fun _ => ⟨fun hy => ⟨by omega, hy, by omega, fun hz => absurd ⟨hy, hz⟩ hx, fun _ => ⟨fun hz => by omega, fun _ => ?_⟩⟩, fun hy => ⟨fun hz => by omega, fun _ => ?_⟩⟩, fun hy => by omega⟩
            all_goals
              refine ⟨Nat.le_refl _, shape_ok fun i _ => rfl, o.1, Nat.le_refl _, shape_ok fun i _ => rfl, rf, by omega, by omega, by omega, fun c => stop (r3 (.inl c)), fun c => ⟨by omega, by omega, by omega, fun d => stop (r3 (.inr d)), fun d => ⟨t.2.1.1, t.2.1.2, by omega, ⟨by omega, by omega, by omega, by omega, fun _ => ⟨by omega, ?_, ?_⟩, fun hy => (by have := lim hy; omega), more (r4 c d)⟩, by omega⟩⟩⟩
              · show Ar.run .add .i64 w1 (a6 (AF.val (rdoA a8 a9 a10 a11 a12 p)).2.1.toNat) = _
                rw [o.2]; exact r5.1
              · show Ar.run .add .i64 w2 (a7 (AF.val (rdoA a8 a9 a10 a11 a12 p)).2.1.toNat) = _
                rw [o.2]; exact r5.2
      · simp only [DD.sat, Nat.zero_add, cmLss, cmLssF, cmLeq, cmLeqF, cmGtr, cmGtrF, cmGeq, cmGeqF, cmEql, cmEqlF, cmNeq, cmNeqF, decide_eq_true_eq, Bool.not_eq_true', Bool.not_eq_false', avE]
        obtain rfl : p = PS a9 a8 := by omega
        exact ⟨Nat.le_refl _, shape_ok fun i _ => rfl, af, fun hy => by omega, fun _ => ⟨Nat.le_refl _, shape_ok fun i _ => rfl, af, by omega, Int.le_refl _, g6, fun hy => by omega⟩⟩
  · refine ⟨by omega, by omega, Int.le_refl _, by omega, fun hx => by omega, fun hx => ?_, fun q q0 q1 => by omega⟩
    have := ho.1 0 (by omega)
    exact this.1
end
end Go.Proofs.Ythagjhadjpangaa.Cx

/- A CALL THAT IS KNOWN BY A RUN OF ITS OWN: the evaluator runs it once, in a small memory that holds its arguments' blocks; wherever the same arguments come up, with blocks that hold the same, it yields the same. So a long run is many short ones, each a theorem of its own. -/
namespace Go.Proofs.Ythagjhadjpangaa.Cx
set_option linter.unusedSimpArgs false
set_option linter.unusedVariables false
open Go Go.RowKit
mutual
/-- The same value, where block b is called β b. -/
def CV.eqv (β : Nat → Nat) (N : Nat) : CV → CV → Bool
  | .bool (.c a), .bool (.c b) => (a && b) || (!a && !b)
  | .int k (.c n), .int k' (.c m) => decide (k = k') && decide (n = m)
  | .ptr none, .ptr none => true
  | .ptr (some (b, o)), .ptr (some (b', o')) => Nat.blt b N && (Nat.beq (β b) b' && Nat.beq o o')
  | .slc none n c, .slc none n' c' => Nat.beq n n' && Nat.beq c c'
  | .slc (some (b, o)) n c, .slc (some (b', o')) n' c' => Nat.blt b N && (Nat.beq (β b) b' && (Nat.beq o o' && (Nat.beq n n' && Nat.beq c c')))
  | .emp, .emp => true
  | .agg l, .agg m => CV.eqvl β N l m
  | .tup l, .tup m => CV.eqvl β N l m
  | _, _ => false
def CV.eqvl (β : Nat → Nat) (N : Nat) : List CV → List CV → Bool
  | [], [] => true
  | c :: l, d :: m => CV.eqv β N c d && CV.eqvl β N l m
  | _, _ => false
end
section
variable {P : Program} {ρ : Env}
mutual
theorem CV.eqv_ok {β : Nat → Nat} {N : Nat} {σ τ : Mp} (hβ : ∀ b, b < N → τ b = σ (β b)) : ∀ (c d : CV) {v : Value}, CV.eqv β N c d = true → VR ρ σ d v → VR ρ τ c v := by
  intro c d v h hv
  unfold CV.eqv at h
  split at h
  · rename_i a b
    obtain rfl := hv.bool_inv
    have e : a = b := by cases a <;> cases b <;> first | rfl | cases h
    subst e
    exact .bool (.c a)
  · simp only [Bool.and_eq_true, decide_eq_true_eq] at h
    obtain ⟨rfl, rfl⟩ := h
    obtain rfl := hv.int_inv
    exact .int _ (.c _)
  · cases hv; exact .ptr0
  · rename_i b o b' o'
    simp only [Bool.and_eq_true] at h
    obtain ⟨h1, h2, h3⟩ := h
    obtain rfl := Nat.eq_of_beq_eq_true h2
    obtain rfl := Nat.eq_of_beq_eq_true h3
    cases hv with
    | ptr hl => exact .ptr ((hβ b (blt_lt h1)).trans hl)
  · simp only [Bool.and_eq_true] at h
    obtain ⟨h1, h2⟩ := h
    obtain rfl := Nat.eq_of_beq_eq_true h1
    obtain rfl := Nat.eq_of_beq_eq_true h2
    cases hv; exact .slc0
  · rename_i b o n c b' o' n' c'
    simp only [Bool.and_eq_true] at h
    obtain ⟨h1, h2, h3, h4, h5⟩ := h
    obtain rfl := Nat.eq_of_beq_eq_true h2
    obtain rfl := Nat.eq_of_beq_eq_true h3
    obtain rfl := Nat.eq_of_beq_eq_true h4
    obtain rfl := Nat.eq_of_beq_eq_true h5
    cases hv with
    | slc hl hc hs => exact .slc ((hβ b (blt_lt h1)).trans hl) hc hs
  · cases hv; exact .emp _ _
  · rename_i l m
    obtain ⟨cs, rfl, h1⟩ := hv.agg_inv
    exact .agg (CV.eqvl_ok hβ l m h h1)
  · rename_i l m
    obtain ⟨cs, rfl, h1⟩ := hv.tup_inv
    exact .tup (CV.eqvl_ok hβ l m h h1)
  · cases h
theorem CV.eqvl_ok {β : Nat → Nat} {N : Nat} {σ τ : Mp} (hβ : ∀ b, b < N → τ b = σ (β b)) : ∀ (l m : List CV) {vs : List Value}, CV.eqvl β N l m = true → VRl ρ σ m vs → VRl ρ τ l vs
  | [], [], _, _, hv => by cases hv; exact .nil
  | [], d :: m, _, h, _ => by unfold CV.eqvl at h; cases h
  | c :: l, [], _, h, _ => by unfold CV.eqvl at h; cases h
  | c :: l, d :: m, _, h, hv => by
    unfold CV.eqvl at h
    simp only [Bool.and_eq_true] at h
    cases hv with
    | cons h1 t1 => exact .cons (CV.eqv_ok hβ c d h.1 h1) (CV.eqvl_ok hβ l m h.2 t1)
end
abbrev KBlk := List CV × Nat
def KBlk.blk (x : KBlk) : Blk := ⟨.lit x.1, x.2, true, none⟩
noncomputable def hB : List KBlk → Nat → Tr Blk
  | [], _ => .nil
  | x :: l, q => (hB l (q + 1)).set q (KBlk.blk x)
theorem hB_get (i : Nat) : ∀ (l : List KBlk) (q : Nat) (k : Blk), (hB l q).get i = some k → ∃ j x, i = q + j ∧ l[j]? = some x ∧ k = KBlk.blk x
  | [], q, k, h => by simp [hB, Tr.get_nil] at h
  | x :: l, q, k, h => by
    simp only [hB, Tr.get_set] at h
    by_cases hi : i = q
    · rw [if_pos hi] at h
      cases h
      exact ⟨0, x, by omega, rfl, rfl⟩
    · rw [if_neg hi] at h
      obtain ⟨j, x', h1, h2, h3⟩ := hB_get i l (q + 1) k h
      exact ⟨j + 1, x', by omega, by simpa using h2, h3⟩
def nodB : List Nat → Bool
  | [] => true
  | b :: l => !(l.any (Nat.beq b)) && nodB l
theorem nodB_ok : ∀ {l : List Nat}, nodB l = true → ∀ (i j b : Nat), l[i]? = some b → l[j]? = some b → i = j
  | [], _, i, j, b, h, _ => by simp at h
  | c :: l, h, i, j, b, hi, hj => by
    unfold nodB at h
    simp only [Bool.and_eq_true, Bool.not_eq_true'] at h
    have no : ∀ j : Nat, l[j]? = some c → False := fun j hj => by
      have := List.any_eq_false.1 h.1 c (List.mem_of_getElem? hj)
      exact this (Nat.beq_refl c)
    cases i with
    | zero =>
      cases j with
      | zero => rfl
      | succ j =>
        have e0 : c = b := by simpa using hi
        subst e0
        exact (no j (by simpa using hj)).elim
    | succ i =>
      cases j with
      | zero =>
        have e0 : c = b := by simpa using hj
        subst e0
        exact (no i (by simpa using hi)).elim
      | succ j => exact congrArg Nat.succ (nodB_ok h.2 i j b (by simpa using hi) (by simpa using hj))
/-- A call: its arguments, their blocks, what it yields, the blocks that it makes and that matter (how the run calls them): they are numbered behind the arguments' blocks. -/
structure KCall where
  g : Nat
  args : List CV
  blks : List KBlk
  c : CV
  new : List (Nat × KBlk)
def KCall.n1 (K : KCall) : Nat := K.blks.length + K.new.length
/-- What the run calls a block. -/
def KCall.old (K : KCall) (b : Nat) : Nat := bif Nat.blt b K.blks.length then b else match K.new[b - K.blks.length]? with | some x => x.1 | none => 0
noncomputable def KCall.h1 (K : KCall) : Tr Blk := hB (K.new.map (·.2)) K.blks.length
/-- The run says so. -/
noncomputable def KCall.says (K : KCall) : Option Out → Bool
  | some ⟨.val c', s1, _, []⟩ => (match s1.pc with | [] => true | _ => false) && (CV.eqv K.old K.n1 K.c c' && ((K.new.all fun x => (Nat.ble K.blks.length x.1 && Nat.blt x.1 s1.next) && match s1.heap.get x.1 with | some ⟨.lit l, e, true, none⟩ => CV.eqvl K.old K.n1 x.2.1 l && Nat.beq e x.2.2 | _ => false) && (nodB (K.new.map (·.1)) && K.blks.all fun x => CV.eqvl id K.blks.length x.1 x.1)))
  | _ => false
structure KCall.Ok (K : KCall) (P : Program) (ρ : Env) : Prop where
  fn : ∃ fn, P.funcs[K.g]? = some fn ∧ fn.body.isSome = true
  rg : K.c.rng K.blks.length K.n1 = true
  hg : ∀ x ∈ K.new, CV.rngl K.blks.length K.n1 x.2.1 = true
  ctr : Ctr P ρ K.g K.args (hB K.blks 0) K.blks.length [] K.c K.h1 K.n1
theorem KCall.of_run {K : KCall} (hP : progOk P = true) {memo : Memo} (hM : MemoOk P (ctxOf P memo) ρ) {m : Nat} (hf : (match P.funcs[K.g]? with | some fn => fn.body.isSome | none => false) = true)
    (h2 : K.c.rng K.blks.length K.n1 = true) (h3 : (K.new.all fun x => CV.rngl K.blks.length K.n1 x.2.1) = true)
    (h : K.says (eval (ctxOf P memo) m K.blks.length (.call K.g K.args) ⟨hB K.blks 0, K.blks.length, [], []⟩) = true) : K.Ok P ρ := by
  refine ⟨?_, h2, fun x hx => List.all_eq_true.1 h3 x hx, ?_, ?_⟩
  · split at hf
    · rename_i fn hfn; exact ⟨fn, hfn, hf⟩
    · cases hf
  · split at hf
    · rename_i fn hfn; exact ⟨fn, hfn, hf⟩
    · cases hf
  · intro n σ w args' ha hH hN
    generalize he : eval (ctxOf P memo) m K.blks.length (.call K.g K.args) ⟨hB K.blks 0, K.blks.length, [], []⟩ = r at h
    unfold KCall.says at h
    split at h
    · rename_i c' s1 R
      simp only [Bool.and_eq_true] at h
      obtain ⟨q1, q3, q4, q5, q6⟩ := h
      have hpc : s1.pc = [] := by
        split at q1
        · assumption
        · cases q1
      have k := (eval_ok (ρ := ρ) (ctxOf_ok hP memo) hM m).call _ _ _ _ _ _ _ _ he
      have := k.run n σ (curOf (hB K.blks 0) K.blks.length) w args' (by rw [hpc]; intro p hp; cases hp) ha hH (fun b hb => by
        rcases hb with hb | hb
        · have : b < K.blks.length := k.lt.1 b hb
          exact if_pos this
        · cases hb) (fun b hb _ => hN b hb)
      refine this.mono ?_
      rintro e' w' ⟨v, rfl, σ1, x1, x2, x3, x4, x5⟩
      have x1 : Ext σ σ1 K.blks.length s1.next := x1
      have x3 : HR ρ σ1 (upd (curOf (hB K.blks 0) K.blks.length) K.blks.length s1.next s1.heap []) w' := x3
      have x5 : Fresh σ σ1 K.blks.length s1.next K.blks.length [] w := x5
      have old0 : ∀ b, b < K.blks.length → K.old b = b := fun b hb => by
        unfold KCall.old
        rw [show Nat.blt b K.blks.length = true from Nat.ble_eq_true_of_le hb, cond_true]
      have old1 : ∀ b, ¬ b < K.blks.length → b < K.n1 → ∃ x, K.new[b - K.blks.length]? = some x ∧ K.old b = x.1 := fun b hb hb2 => by
        have hl : b - K.blks.length < K.new.length := by unfold KCall.n1 at hb2; omega
        refine ⟨_, List.getElem?_eq_getElem hl, ?_⟩
        unfold KCall.old
        have hbf : Nat.blt b K.blks.length = false := by
          cases hbb : Nat.blt b K.blks.length with
          | false => rfl
          | true => exact absurd (blt_lt hbb) hb
        rw [hbf, cond_false, List.getElem?_eq_getElem hl]
      have newOk : ∀ x ∈ K.new, (K.blks.length ≤ x.1 ∧ x.1 < s1.next) ∧ ∃ l, s1.heap.get x.1 = some ⟨.lit l, x.2.2, true, none⟩ ∧ CV.eqvl K.old K.n1 x.2.1 l = true := fun x hx => by
        have := List.all_eq_true.1 q4 x hx
        simp only [Bool.and_eq_true] at this
        obtain ⟨⟨g1, g2⟩, g3⟩ := this
        refine ⟨⟨Nat.le_of_ble_eq_true g1, blt_lt g2⟩, ?_⟩
        split at g3
        · rename_i l e hl
          simp only [Bool.and_eq_true] at g3
          obtain rfl := Nat.eq_of_beq_eq_true g3.2
          exact ⟨l, hl, g3.1⟩
        · cases g3
      obtain ⟨σ2, hσ2⟩ : ∃ σ2 : Mp, σ2 = fun b => if b < K.n1 then σ1 (K.old b) else none := ⟨_, rfl⟩
      have hβ : ∀ b, b < K.n1 → σ2 b = σ1 (K.old b) := fun b hb => by rw [hσ2]; exact if_pos hb
      have hle : K.blks.length ≤ K.n1 := by unfold KCall.n1; omega
      have hlow : ∀ b, b < K.blks.length → σ2 b = σ1 b := fun b hb => by rw [hβ b (by omega), old0 b hb]
      have get : ∀ b k, upd (curOf (hB K.blks 0) K.blks.length) K.blks.length K.n1 K.h1 [] b = some k → b < K.n1 ∧ (∃ k1, upd (curOf (hB K.blks 0) K.blks.length) K.blks.length s1.next s1.heap [] (K.old b) = some k1 ∧ k.live = k1.live ∧ k.esz = k1.esz ∧ k.ext = none ∧ k1.ro = false ∧ ∀ us, VRl ρ σ1 k1.cells us → VRl ρ σ2 k.cells us) := by
        intro b k hk
        by_cases hb : b < K.blks.length
        · refine ⟨by omega, ?_⟩
          unfold upd at hk ⊢
          rw [old0 b hb]
          rw [if_neg (by simp; omega)] at hk ⊢
          have hk2 : curOf (hB K.blks 0) K.blks.length b = some k := hk
          unfold curOf at hk2
          rw [if_pos hb] at hk2
          obtain ⟨j, x, rfl, g1, rfl⟩ := hB_get b K.blks 0 k hk2
          exact ⟨_, hk, rfl, rfl, rfl, rfl, fun us hus => CV.eqvl_ok (fun b hb => hlow b hb) _ _ (List.all_eq_true.1 q6 x (List.mem_of_getElem? g1)) hus⟩
        · by_cases hb2 : b < K.n1
          · refine ⟨hb2, ?_⟩
            unfold upd at hk
            rw [if_pos (.inr ⟨by omega, hb2⟩)] at hk
            have hk : (hB (K.new.map (·.2)) K.blks.length).get b = some k := hk
            obtain ⟨j, x, rfl, g1, rfl⟩ := hB_get b _ _ k hk
            rw [List.getElem?_map] at g1
            obtain ⟨y, hy, hyo⟩ := old1 (K.blks.length + j) hb hb2
            rw [Nat.add_sub_cancel_left] at hy
            rw [hy] at g1
            obtain rfl : y.2 = x := Option.some.inj g1
            obtain ⟨⟨r1, r2⟩, l, r3, r4⟩ := newOk y (List.mem_of_getElem? hy)
            refine ⟨⟨.lit l, y.2.2, true, none⟩, ?_, rfl, rfl, rfl, rfl, fun us hus => CV.eqvl_ok hβ _ _ r4 hus⟩
            unfold upd
            rw [hyo, if_pos (.inr ⟨r1, r2⟩)]
            exact r3
          · unfold upd at hk
            rw [if_neg (by simp; omega)] at hk
            unfold curOf at hk
            rw [if_neg hb] at hk
            cases hk
      have inj : ∀ b b', b < K.n1 → b' < K.n1 → K.old b = K.old b' → b = b' := by
        intro b b' hb hb' he
        by_cases h1 : b < K.blks.length
        · rw [old0 b h1] at he
          by_cases h2 : b' < K.blks.length
          · rw [old0 b' h2] at he; exact he
          · obtain ⟨y, hy, hyo⟩ := old1 b' h2 hb'
            have := (newOk y (List.mem_of_getElem? hy)).1.1
            omega
        · obtain ⟨x, hx, hxo⟩ := old1 b h1 hb
          by_cases h2 : b' < K.blks.length
          · rw [old0 b' h2] at he
            have := (newOk x (List.mem_of_getElem? hx)).1.1
            omega
          · obtain ⟨y, hy, hyo⟩ := old1 b' h2 hb'
            have := nodB_ok q5 (b - K.blks.length) (b' - K.blks.length) x.1 (by rw [List.getElem?_map, hx]; rfl) (by rw [List.getElem?_map, hy]; show some y.1 = some x.1; rw [← hyo, ← he, hxo])
            omega
      refine ⟨v, rfl, σ2, fun b hb => ?_, CV.eqv_ok hβ _ _ q3 x2, ?_, x4, fun b l b1 b2 b3 => ?_⟩
      · have hb : b < K.blks.length ∨ K.n1 ≤ b := hb
        rcases hb with hb | hb
        · rw [hlow b hb]; exact x1 b (.inl hb)
        · rw [hσ2, hN b (by omega)]; exact if_neg (by omega)
      · refine ⟨fun b k l a1 a2 a3 => ?_, fun b b' k k' l l' a1 a2 a3 a4 a5 a6 a7 a8 => ?_, fun b k x l a1 a2 a3 => ?_, fun b b' k k' x x' l l' a1 a2 a3 a4 a5 a6 a7 => ?_, fun y hy => ⟨(x3.glob y hy).1, fun b k l a1 a2 ar a3 => ?_⟩⟩
        · obtain ⟨hb, k1, g1, g2, g3, _, _, g5⟩ := get b k a1
          rw [hβ b hb] at a3
          obtain ⟨cs, t, p, r1, r2, r3, r4, r5, r6⟩ := x3.cell _ k1 l g1 (g2 ▸ a2) a3
          have r7 := g5 _ r6
          have hln : k.cells.length = k1.cells.length := r7.length.symm.trans r6.length
          exact ⟨cs, t, p, r1, fun _ => r2 (by assumption), r3, g3.trans r4, by rw [hln]; exact r5, by rw [hln]; exact r7⟩
        · obtain ⟨hb, k1, g1, g2, _, _, g4, _⟩ := get b k a1
          obtain ⟨hb', k1', g1', g2', _, _, g4', _⟩ := get b' k' a4
          rw [hβ b hb] at a3
          rw [hβ b' hb'] at a6
          exact inj b b' hb hb' (x3.inj _ _ k1 k1' l l' g1 (g2 ▸ a2) a3 g1' (g2' ▸ a5) a6 a7 (.inl g4))
        · obtain ⟨_, _, _, _, _, g, _⟩ := get b k a1
          rw [g] at a2; cases a2
        · obtain ⟨_, _, _, _, _, g, _⟩ := get b k a1
          rw [g] at a2; cases a2
        · obtain ⟨hb, k1, g1, g2, _, _, g4, _⟩ := get b k a1
          rw [hβ b hb] at a3
          exact (x3.glob y hy).2 _ k1 l g1 (g2 ▸ a2) g4 a3
      · have b2 : b < K.n1 := b2
        have hnb : ¬ b < K.blks.length := by have b1 : K.blks.length ≤ b := b1; omega
        rw [hβ b b2] at b3
        obtain ⟨y, hy, hyo⟩ := old1 b hnb b2
        obtain ⟨⟨r1, r2⟩, _⟩ := newOk y (List.mem_of_getElem? hy)
        rw [hyo] at b3
        exact x5 y.1 l r1 r2 b3
    · cases h
/-- The new blocks, by the numbers that they get. -/
def newL (q : Nat) : List (Nat × KBlk) → List (Nat × Blk)
  | [] => []
  | x :: l => (q, KBlk.blk x.2) :: newL (q + 1) l
def KCall.newB (K : KCall) : List (Nat × Blk) := newL K.blks.length K.new
theorem newL_mem : ∀ {l : List (Nat × KBlk)} {q : Nat} {y : Nat × Blk}, y ∈ newL q l → (q ≤ y.1 ∧ y.1 < q + l.length) ∧ ∃ x ∈ l, y.2 = KBlk.blk x.2
  | [], q, y, h => by cases h
  | x :: l, q, y, h => by
    rcases List.mem_cons.1 h with rfl | h
    · exact ⟨⟨Nat.le_refl _, by simp⟩, x, List.mem_cons_self .., rfl⟩
    · obtain ⟨⟨h1, h2⟩, z, hz, e⟩ := newL_mem h
      exact ⟨⟨by omega, by simp only [List.length_cons]; omega⟩, z, List.mem_cons_of_mem _ hz, e⟩
theorem newL_find : ∀ (l : List (Nat × KBlk)) (q b : Nat), (newL q l).find? (fun x => x.1 == b) = if q ≤ b then (l[b - q]?).map (fun x => (b, KBlk.blk x.2)) else none
  | [], q, b => by simp [newL]
  | x :: l, q, b => by
    rw [newL, List.find?_cons]
    by_cases h : q = b
    · subst h; simp
    · have hf : (q == b) = false := by simpa using h
      rw [hf, newL_find l (q + 1) b]
      by_cases h2 : q + 1 ≤ b
      · rw [if_pos h2, if_pos (by omega), show b - q = (b - (q + 1)) + 1 by omega, List.getElem?_cons_succ]
      · rw [if_neg h2, if_neg (by omega)]
theorem hB_at : ∀ (l : List KBlk) (q b : Nat), (hB l q).get b = if q ≤ b then (l[b - q]?).map KBlk.blk else none
  | [], q, b => by simp [hB, Tr.get_nil]
  | x :: l, q, b => by
    rw [hB, Tr.get_set]
    by_cases h : b = q
    · subst h; simp
    · rw [if_neg h, hB_at l (q + 1) b]
      by_cases h2 : q + 1 ≤ b
      · rw [if_pos h2, if_pos (by omega), show b - q = (b - (q + 1)) + 1 by omega, List.getElem?_cons_succ]
      · rw [if_neg h2, if_neg (by omega)]
/-! ## The memo -/
def insM (b b' : Nat) (m : List (Nat × Nat)) : List (Nat × Nat) := bif m.any (fun x => Nat.beq x.1 b) then m else (b, b') :: m
mutual
def CV.uni : CV → CV → List (Nat × Nat) → List (Nat × Nat)
  | .ptr (some (b, _)), .ptr (some (b', _)), m => insM b b' m
  | .slc (some (b, _)) _ _, .slc (some (b', _)) _ _, m => insM b b' m
  | .agg l, .agg l', m => CV.unil l l' m
  | .tup l, .tup l', m => CV.unil l l' m
  | _, _, m => m
def CV.unil : List CV → List CV → List (Nat × Nat) → List (Nat × Nat)
  | c :: l, d :: l', m => CV.unil l l' (CV.uni c d m)
  | _, _, m => m
end
def lookM (m : List (Nat × Nat)) (b : Nat) : Nat := match m.find? (fun x => Nat.beq x.1 b) with | some x => x.2 | none => 0
noncomputable def uniB (s : St) : List KBlk → Nat → List (Nat × Nat) → List (Nat × Nat)
  | [], _, m => m
  | x :: l, i, m => uniB s l (i + 1) (match s.heap.get (lookM m i) with | some ⟨.lit k, _, _, _⟩ => CV.unil x.1 k m | _ => m)
noncomputable def chkB (s : St) (β : Nat → Nat) (N : Nat) : List KBlk → Nat → Bool
  | [], _ => true
  | x :: l, i => (match s.heap.get (β i) with | some ⟨.lit k, e, true, none⟩ => CV.eqvl β N x.1 k && (Nat.beq e x.2 && Nat.blt (β i) s.next) | _ => false) && chkB s β N l (i + 1)
theorem chkB_ok {s : St} {β : Nat → Nat} {N : Nat} : ∀ {l : List KBlk} {q : Nat}, chkB s β N l q = true → ∀ j x, l[j]? = some x → ∃ k e, s.heap.get (β (q + j)) = some ⟨.lit k, e, true, none⟩ ∧ CV.eqvl β N x.1 k = true ∧ e = x.2 ∧ β (q + j) < s.next
  | [], q, _, j, x, h => by simp at h
  | y :: l, q, h, j, x, hx => by
    unfold chkB at h
    simp only [Bool.and_eq_true] at h
    obtain ⟨h1, h2⟩ := h
    cases j with
    | zero =>
      have e0 : y = x := by simpa using hx
      subst e0
      split at h1
      · rename_i k e hk
        simp only [Bool.and_eq_true] at h1
        exact ⟨k, e, hk, h1.1, Nat.eq_of_beq_eq_true h1.2.1, blt_lt h1.2.2⟩
      · cases h1
    | succ j =>
      have := chkB_ok h2 j x (by simpa using hx)
      rw [show q + 1 + j = q + (j + 1) by omega] at this
      exact this
/-- The names that the blocks have. -/
noncomputable def KCall.bs (K : KCall) (s : St) (args : List CV) : List Nat := (List.range K.blks.length).map (lookM (uniB s K.blks 0 (CV.unil K.args args [])))
def bOf (bs : List Nat) (i : Nat) : Nat := (bs[i]?).getD 0
noncomputable def KCall.fits (K : KCall) (s : St) (args : List CV) (bs : List Nat) : Bool :=
  CV.eqvl (bOf bs) K.blks.length K.args args && (chkB s (bOf bs) K.blks.length K.blks 0 && (nodB bs && Nat.beq bs.length K.blks.length))
noncomputable def memoK (K : KCall) (inner : Memo) : Memo := fun f args s =>
  bif Nat.beq f K.g && K.fits s args (K.bs s args) then
    some (K.c.ren (liftName K.blks.length s.next), { s with heap := putNew K.blks.length s.next s.heap K.newB, next := s.next + (K.n1 - K.blks.length) }, K.bs s args, [])
  else inner f args s
theorem memoK_ok {K : KCall} {inner : Memo} (hK : K.Ok P ρ) (hi : MemoOk P (ctxOf P inner) ρ) : MemoOk P (ctxOf P (memoK K inner)) ρ := by
  have lift : ∀ {f args s c s' R' W}, CallOk P (ctxOf P inner) ρ f args s c s' R' W → CallOk P (ctxOf P (memoK K inner)) ρ f args s c s' R' W := fun h => ⟨h.fn, h.frm, h.lt, h.run⟩
  intro f args s c s' R' W h0
  have h : memoK K inner f args s = some (c, s', R', W) := h0
  clear h0
  unfold memoK at h
  generalize hbs : K.bs s args = bs at h
  cases hf : (Nat.beq f K.g && K.fits s args bs) with
  | false => rw [hf, cond_false] at h; exact lift (hi _ _ _ _ _ _ _ h)
  | true =>
    rw [hf, cond_true] at h
    cases h
    simp only [Bool.and_eq_true, KCall.fits] at hf
    obtain ⟨f1, f2, f3, f4, f5⟩ := hf
    obtain rfl := Nat.eq_of_beq_eq_true f1
    have hlen := Nat.eq_of_beq_eq_true f5
    have hblk := chkB_ok f3
    have at' : ∀ i, i < K.blks.length → R'[i]? = some (bOf R' i) := fun i hi => by
      unfold bOf
      rw [List.getElem?_eq_getElem (by omega)]
      rfl
    have rngw : ∀ x ∈ K.newB, K.blks.length ≤ x.1 ∧ x.1 < K.n1 := fun x hx => (newL_mem hx).1
    refine Ctr.callS (base := K.blks.length) (n1 := K.n1) (args := K.args) (h0 := hB K.blks 0) (h1 := K.h1) (K := fun _ => hK.ctr) hK.fn (by unfold KCall.n1; omega) rfl ⟨[], rfl⟩ (fun b hb => ?_) (fun j hj kb hk => ?_) (fun b hb => ?_) (fun σ cur w l hp hl hH hcur => ?_) (fun σ σ2 v hl h => VR.lift hl h hK.rg)
    · show (putNew _ _ _ _).get b = _
      rw [get_putNew]
      split
      · rename_i x hx
        have h1 := List.find?_some hx
        have h2 := List.mem_of_find?_eq_some hx
        simp only [beq_iff_eq] at h1
        obtain ⟨q1, q2⟩ := rngw _ h2
        refine absurd ?_ hb
        show s.next ≤ b ∧ b < s.next + (K.n1 - K.blks.length)
        unfold liftName at h1
        omega
      · rfl
    · have hk : (putNew K.blks.length s.next s.heap K.newB).get (s.next + j) = some kb := hk
      rw [get_putNew] at hk
      have e : ∀ x ∈ K.newB, (liftName K.blks.length s.next x.1 == s.next + j) = (x.1 == K.blks.length + j) := fun x hx => by
        obtain ⟨q1, q2⟩ := rngw x hx
        unfold liftName
        rw [Bool.eq_iff_iff]
        simp only [beq_iff_eq]
        omega
      have hcg := find_congr e
      rw [hcg] at hk
      have hjl : j < K.new.length := by unfold KCall.n1 at hj; omega
      have hfd : K.newB.find? (fun x => x.1 == K.blks.length + j) = some (K.blks.length + j, KBlk.blk K.new[j].2) := by
        unfold KCall.newB
        rw [newL_find, if_pos (by omega), Nat.add_sub_cancel_left, List.getElem?_eq_getElem hjl]
        rfl
      rw [hfd] at hk
      cases hk
      have hmem : K.new[j] ∈ K.new := List.getElem_mem hjl
      have g1 := hK.hg _ hmem
      refine ⟨KBlk.blk K.new[j].2, ?_, rfl, rfl, rfl, fun h => rfl, fun σ σ2 us hl h => Blk.lift (k := KBlk.blk K.new[j].2) hl g1 h⟩
      unfold KCall.h1
      rw [hB_at, if_pos (by omega), Nat.add_sub_cancel_left, List.getElem?_map, List.getElem?_eq_getElem hjl]
      rfl
    · obtain ⟨i, hi'⟩ := List.getElem?_of_mem hb
      have hil : i < K.blks.length := by
        have := (List.getElem?_eq_some_iff.1 hi').1
        omega
      obtain ⟨k, e, _, _, _, q⟩ := hblk i _ (List.getElem?_eq_getElem hil)
      rw [Nat.zero_add] at q
      have := at' i hil
      rw [hi'] at this
      rw [Option.some.inj this]; exact q
    · have hτ : ∀ b, b < K.blks.length → (fun i => if i < K.blks.length then σ (bOf R' i) else none) b = σ (bOf R' b) := fun b hb => if_pos hb
      refine ⟨fun i => if i < K.blks.length then σ (bOf R' i) else none, CV.eqvl_ok hτ _ _ f2 hl, ?_, fun b hb => if_neg (by omega)⟩
      have get : ∀ b k, curOf (hB K.blks 0) K.blks.length b = some k → ∃ x k1, b < K.blks.length ∧ k = KBlk.blk x ∧ cur (bOf R' b) = some ⟨.lit k1, x.2, true, none⟩ ∧ ∀ us, VRl ρ σ k1 us → VRl ρ (fun i => if i < K.blks.length then σ (bOf R' i) else none) x.1 us := by
        intro b k hk
        unfold curOf at hk
        split at hk
        · rename_i hb
          obtain ⟨j, x, rfl, g1, rfl⟩ := hB_get b K.blks 0 k hk
          obtain ⟨k1, e, c1, c2, rfl, c4⟩ := hblk j x g1
          have hm : bOf R' (0 + j) ∈ R' := List.mem_of_getElem? (at' _ hb)
          exact ⟨x, k1, hb, rfl, (hcur _ hm).trans c1, fun us hus => CV.eqvl_ok hτ _ _ c2 hus⟩
        · cases hk
      refine ⟨fun b k l a1 a2 a3 => ?_, fun b b' k k' l l' a1 a2 a3 a4 a5 a6 a7 a8 => ?_, fun b k x l a1 a2 a3 => ?_, fun b b' k k' x x' l l' a1 a2 a3 a4 a5 a6 a7 => ?_, fun y hy => ⟨(hH.glob y hy).1, fun b k l a1 a2 ar a3 => ?_⟩⟩
      · obtain ⟨x, k1, hb, rfl, q1, q2⟩ := get b k a1
        have a3 : (if b < K.blks.length then σ (bOf R' b) else none) = some l := a3
        rw [if_pos hb] at a3
        obtain ⟨cs, t, p, r1, r2, r3, r4, r5, r6⟩ := hH.cell _ _ l q1 rfl a3
        have r7 := q2 _ r6
        have r6l := r6.length
        have r7l := r7.length
        have e1 : Blk.cells ⟨.lit k1, x.2, true, none⟩ = k1 := rfl
        have e2 : Blk.cells (KBlk.blk x) = x.1 := rfl
        rw [e1] at r5 r6 r7 r7l r6l
        have hln : x.1.length = k1.length := r7l.symm.trans r6l
        exact ⟨cs, t, p, r1, fun _ => r2 rfl, r3, r4, by rw [e2, hln]; exact r5, by rw [e2, hln]; exact r7⟩
      · obtain ⟨x, k1, hb, rfl, q1, _⟩ := get b k a1
        obtain ⟨x', k1', hb', rfl, q1', _⟩ := get b' k' a4
        have a3 : (if b < K.blks.length then σ (bOf R' b) else none) = some l := a3
        have a6 : (if b' < K.blks.length then σ (bOf R' b') else none) = some l' := a6
        rw [if_pos hb] at a3
        rw [if_pos hb'] at a6
        have := hH.inj _ _ _ _ l l' q1 rfl a3 q1' rfl a6 a7 (.inl rfl)
        exact nodB_ok f4 b b' _ (at' b hb) (by rw [this]; exact at' b' hb')
      · obtain ⟨x', k1, hb, rfl, _⟩ := get b k a1
        cases a2
      · obtain ⟨x', k1, hb, rfl, _⟩ := get b k a1
        cases a2
      · obtain ⟨x', k1, hb, rfl, q1, _⟩ := get b k a1
        have a3 : (if b < K.blks.length then σ (bOf R' b) else none) = some l := a3
        rw [if_pos hb] at a3
        exact (hH.glob y hy).2 _ _ l q1 rfl rfl a3
end
end Go.Proofs.Ythagjhadjpangaa.Cx

/- Calls that acme/acmelaw07.known makes, each known by a run of its own. Made by tools/cxkcalls.py. -/
namespace Go.Proofs.Ythagjhadjpangaa.Cx
set_option maxRecDepth 100000
set_option linter.unusedVariables false
open Go Go.Proofs Go.RowKit
def CxKn07K0 : KCall := ⟨18, [.agg [.bool (.c false), .int .i64 (.c (-1000)), .int .i64 (.c 1000), .int .i64 (.c (-500)), .int .i64 (.c 500), .slc (some (0, 0)) 2 2], .slc (some (1, 0)) 2 2, .int .i64 (.c 0), .int .i64 (.c 200)], [([.int .i64 (.c 10), .int .i64 (.c 20), .int .i64 (.c 50), .int .i64 (.c 100)], 2), ([.int .i64 (.c 200), .int .i64 (.c 0), .int .i64 (.c 100000), .int .i64 (.c 110000), .int .i64 (.c 100), .int .i64 (.c 1), .int .i64 (.c 100000), .int .i64 (.c 110000)], 4)], .tup [.agg [.int .i64 (.c 2000), .int .i64 (.c 4000)], .int .i64 (.c 0)], []⟩
theorem CxKn07K0_run : CxKn07K0.says (eval (ctxOf Try.prog memo0) 1000 CxKn07K0.blks.length (.call CxKn07K0.g CxKn07K0.args) ⟨hB CxKn07K0.blks 0, CxKn07K0.blks.length, [], []⟩) = true := by kernel_rfl
theorem CxKn07K0_ok {ρ : Env} : CxKn07K0.Ok Try.prog ρ := KCall.of_run try_ok memo0_ok (by kernel_rfl) (by kernel_rfl) (by kernel_rfl) CxKn07K0_run
def CxKn07K1 : KCall := ⟨19, [.agg [.bool (.c false), .int .i64 (.c (-1000)), .int .i64 (.c 1000), .int .i64 (.c (-500)), .int .i64 (.c 500), .slc (some (0, 0)) 2 2], .slc (some (1, 0)) 2 2, .int .i64 (.c 0), .int .i64 (.c 200)], [([.int .i64 (.c 10), .int .i64 (.c 20), .int .i64 (.c 50), .int .i64 (.c 100)], 2), ([.int .i64 (.c 200), .int .i64 (.c 0), .int .i64 (.c 100000), .int .i64 (.c 110000), .int .i64 (.c 100), .int .i64 (.c 1), .int .i64 (.c 100000), .int .i64 (.c 110000)], 4)], .tup [.agg [.int .i64 (.c 101500), .int .i64 (.c 104520)], .int .i64 (.c 0)], []⟩
theorem CxKn07K1_run : CxKn07K1.says (eval (ctxOf Try.prog memo0) 1000 CxKn07K1.blks.length (.call CxKn07K1.g CxKn07K1.args) ⟨hB CxKn07K1.blks 0, CxKn07K1.blks.length, [], []⟩) = true := by kernel_rfl
theorem CxKn07K1_ok {ρ : Env} : CxKn07K1.Ok Try.prog ρ := KCall.of_run try_ok memo0_ok (by kernel_rfl) (by kernel_rfl) (by kernel_rfl) CxKn07K1_run
end Go.Proofs.Ythagjhadjpangaa.Cx

/- Calls that acme/acmelaw07.known makes, each known by a run of its own. Made by tools/cxkcalls.py. -/
namespace Go.Proofs.Ythagjhadjpangaa.Cx
set_option maxRecDepth 100000
set_option linter.unusedVariables false
open Go Go.Proofs Go.RowKit
def CxKn07K2 : KCall := ⟨25, [.agg [.bool (.c false), .int .i64 (.c (-1000)), .int .i64 (.c 1000), .int .i64 (.c (-500)), .int .i64 (.c 500), .slc (some (0, 0)) 2 2], .slc (some (1, 0)) 2 2, .int .i64 (.c 0)], [([.int .i64 (.c 10), .int .i64 (.c 20), .int .i64 (.c 50), .int .i64 (.c 100)], 2), ([.int .i64 (.c 200), .int .i64 (.c 0), .int .i64 (.c 100000), .int .i64 (.c 110000), .int .i64 (.c 100), .int .i64 (.c 1), .int .i64 (.c 100000), .int .i64 (.c 110000)], 4)], .tup [.int .i64 (.c 231), .int .i64 (.c 0)], []⟩
theorem CxKn07K2_run : CxKn07K2.says (eval (ctxOf Try.prog memo0) 1000 CxKn07K2.blks.length (.call CxKn07K2.g CxKn07K2.args) ⟨hB CxKn07K2.blks 0, CxKn07K2.blks.length, [], []⟩) = true := by kernel_rfl
theorem CxKn07K2_ok {ρ : Env} : CxKn07K2.Ok Try.prog ρ := KCall.of_run try_ok memo0_ok (by kernel_rfl) (by kernel_rfl) (by kernel_rfl) CxKn07K2_run
def CxKn07K3 : KCall := ⟨26, [.agg [.bool (.c false), .int .i64 (.c (-1000)), .int .i64 (.c 1000), .int .i64 (.c (-500)), .int .i64 (.c 500), .slc (some (0, 0)) 2 2], .slc (some (1, 0)) 2 2], [([.int .i64 (.c 10), .int .i64 (.c 20), .int .i64 (.c 50), .int .i64 (.c 100)], 2), ([.int .i64 (.c 200), .int .i64 (.c 0), .int .i64 (.c 100000), .int .i64 (.c 110000), .int .i64 (.c 100), .int .i64 (.c 1), .int .i64 (.c 100000), .int .i64 (.c 110000)], 4)], .tup [.slc (some (2, 0)) 2 2, .int .i64 (.c 0)], [(725, ([.int .i64 (.c 0), .int .i64 (.c 101500), .int .i64 (.c 231), .int .i64 (.c 101500)], 2))]⟩
theorem CxKn07K3_run : CxKn07K3.says (eval (ctxOf Try.prog memo0) 1000 CxKn07K3.blks.length (.call CxKn07K3.g CxKn07K3.args) ⟨hB CxKn07K3.blks 0, CxKn07K3.blks.length, [], []⟩) = true := by kernel_rfl
theorem CxKn07K3_ok {ρ : Env} : CxKn07K3.Ok Try.prog ρ := KCall.of_run try_ok memo0_ok (by kernel_rfl) (by kernel_rfl) (by kernel_rfl) CxKn07K3_run
end Go.Proofs.Ythagjhadjpangaa.Cx

/- Calls that acme/acmelaw07.known makes, each known by a run of its own. Made by tools/cxkcalls.py. -/
namespace Go.Proofs.Ythagjhadjpangaa.Cx
set_option maxRecDepth 100000
set_option linter.unusedVariables false
open Go Go.Proofs Go.RowKit
def CxKn07K4 : KCall := ⟨30, [.agg [.bool (.c false), .int .i64 (.c (-1000)), .int .i64 (.c 1000), .int .i64 (.c (-500)), .int .i64 (.c 500), .slc (some (0, 0)) 2 2], .slc (some (1, 0)) 2 2, .int .i64 (.c 1)], [([.int .i64 (.c 10), .int .i64 (.c 20), .int .i64 (.c 50), .int .i64 (.c 100)], 2), ([.int .i64 (.c 200), .int .i64 (.c 0), .int .i64 (.c 100000), .int .i64 (.c 110000), .int .i64 (.c 100), .int .i64 (.c 1), .int .i64 (.c 100000), .int .i64 (.c 110000)], 4)], .tup [.int .i64 (.c 231), .int .i64 (.c 0)], []⟩
theorem CxKn07K4_run : CxKn07K4.says (eval (ctxOf Try.prog memo0) 1000 CxKn07K4.blks.length (.call CxKn07K4.g CxKn07K4.args) ⟨hB CxKn07K4.blks 0, CxKn07K4.blks.length, [], []⟩) = true := by kernel_rfl
theorem CxKn07K4_ok {ρ : Env} : CxKn07K4.Ok Try.prog ρ := KCall.of_run try_ok memo0_ok (by kernel_rfl) (by kernel_rfl) (by kernel_rfl) CxKn07K4_run
def CxKn07K5 : KCall := ⟨34, [.agg [.bool (.c false), .int .i64 (.c (-1000)), .int .i64 (.c 1000), .int .i64 (.c (-500)), .int .i64 (.c 500), .slc (some (0, 0)) 2 2], .slc (some (1, 0)) 2 2, .slc (some (2, 0)) 1 1], [([.int .i64 (.c 10), .int .i64 (.c 20), .int .i64 (.c 50), .int .i64 (.c 100)], 2), ([.int .i64 (.c 200), .int .i64 (.c 0), .int .i64 (.c 100000), .int .i64 (.c 110000), .int .i64 (.c 100), .int .i64 (.c 1), .int .i64 (.c 100000), .int .i64 (.c 110000)], 4), ([.int .i64 (.c 0), .int .i64 (.c 102000)], 2)], .tup [.int .i64 (.c 226), .int .i64 (.c 0)], []⟩
theorem CxKn07K5_run : CxKn07K5.says (eval (ctxOf Try.prog memo0) 1000 CxKn07K5.blks.length (.call CxKn07K5.g CxKn07K5.args) ⟨hB CxKn07K5.blks 0, CxKn07K5.blks.length, [], []⟩) = true := by kernel_rfl
theorem CxKn07K5_ok {ρ : Env} : CxKn07K5.Ok Try.prog ρ := KCall.of_run try_ok memo0_ok (by kernel_rfl) (by kernel_rfl) (by kernel_rfl) CxKn07K5_run
end Go.Proofs.Ythagjhadjpangaa.Cx

/- Calls that acme/acmelaw07.known makes, each known by a run of its own. Made by tools/cxkcalls.py. -/
namespace Go.Proofs.Ythagjhadjpangaa.Cx
set_option maxRecDepth 100000
set_option linter.unusedVariables false
open Go Go.Proofs Go.RowKit
def CxKn07K6 : KCall := ⟨35, [.agg [.bool (.c false), .int .i64 (.c (-1000)), .int .i64 (.c 1000), .int .i64 (.c (-500)), .int .i64 (.c 500), .slc (some (0, 0)) 2 2], .slc (some (1, 0)) 2 2, .slc (some (2, 0)) 2 2], [([.int .i64 (.c 10), .int .i64 (.c 20), .int .i64 (.c 50), .int .i64 (.c 100)], 2), ([.int .i64 (.c 200), .int .i64 (.c 0), .int .i64 (.c 100000), .int .i64 (.c 110000), .int .i64 (.c 100), .int .i64 (.c 1), .int .i64 (.c 100000), .int .i64 (.c 110000)], 4), ([.int .i64 (.c 0), .int .i64 (.c 231)], 1)], .tup [.int .i64 (.c (-1)), .int .i64 (.c 0)], []⟩
theorem CxKn07K6_run : CxKn07K6.says (eval (ctxOf Try.prog memo0) 1000 CxKn07K6.blks.length (.call CxKn07K6.g CxKn07K6.args) ⟨hB CxKn07K6.blks 0, CxKn07K6.blks.length, [], []⟩) = true := by kernel_rfl
theorem CxKn07K6_ok {ρ : Env} : CxKn07K6.Ok Try.prog ρ := KCall.of_run try_ok memo0_ok (by kernel_rfl) (by kernel_rfl) (by kernel_rfl) CxKn07K6_run
def CxKn07K7 : KCall := ⟨35, [.agg [.bool (.c false), .int .i64 (.c (-1000)), .int .i64 (.c 1000), .int .i64 (.c (-500)), .int .i64 (.c 500), .slc (some (0, 0)) 2 2], .slc (some (1, 0)) 2 2, .slc (some (2, 0)) 2 2], [([.int .i64 (.c 10), .int .i64 (.c 20), .int .i64 (.c 50), .int .i64 (.c 100)], 2), ([.int .i64 (.c 200), .int .i64 (.c 0), .int .i64 (.c 100000), .int .i64 (.c 110000), .int .i64 (.c 100), .int .i64 (.c 1), .int .i64 (.c 100000), .int .i64 (.c 110000)], 4), ([.int .i64 (.c 0), .int .i64 (.c 230)], 1)], .tup [.int .i64 (.c 0), .int .i64 (.c 0)], []⟩
theorem CxKn07K7_run : CxKn07K7.says (eval (ctxOf Try.prog memo0) 1000 CxKn07K7.blks.length (.call CxKn07K7.g CxKn07K7.args) ⟨hB CxKn07K7.blks 0, CxKn07K7.blks.length, [], []⟩) = true := by kernel_rfl
theorem CxKn07K7_ok {ρ : Env} : CxKn07K7.Ok Try.prog ρ := KCall.of_run try_ok memo0_ok (by kernel_rfl) (by kernel_rfl) (by kernel_rfl) CxKn07K7_run
end Go.Proofs.Ythagjhadjpangaa.Cx

/- Calls that acme/acmelaw07.known makes, each known by a run of its own. Made by tools/cxkcalls.py. -/
namespace Go.Proofs.Ythagjhadjpangaa.Cx
set_option maxRecDepth 100000
set_option linter.unusedVariables false
open Go Go.Proofs Go.RowKit
def CxKn07K8 : KCall := ⟨41, [.agg [.bool (.c false), .int .i64 (.c (-1000)), .int .i64 (.c 1000), .int .i64 (.c (-500)), .int .i64 (.c 500), .slc (some (0, 0)) 2 2], .agg [.int .i64 (.c 102400), .int .i64 (.c 103600)], .int .i64 (.c 1), .agg [.int .i64 (.c 100000), .int .i64 (.c 110000)]], [([.int .i64 (.c 10), .int .i64 (.c 20), .int .i64 (.c 50), .int .i64 (.c 100)], 2)], .tup [.int .i64 (.c 60), .int .i64 (.c 0)], []⟩
theorem CxKn07K8_run : CxKn07K8.says (eval (ctxOf Try.prog memo0) 1000 CxKn07K8.blks.length (.call CxKn07K8.g CxKn07K8.args) ⟨hB CxKn07K8.blks 0, CxKn07K8.blks.length, [], []⟩) = true := by kernel_rfl
theorem CxKn07K8_ok {ρ : Env} : CxKn07K8.Ok Try.prog ρ := KCall.of_run try_ok memo0_ok (by kernel_rfl) (by kernel_rfl) (by kernel_rfl) CxKn07K8_run
end Go.Proofs.Ythagjhadjpangaa.Cx

/- acme/acmelaw07.known returns true, in every world that holds what the listed variables hold: by the evaluator, its heavy calls by runs of their own. Made by tools/cxkcalls.py. -/
namespace Go.Proofs.Ythagjhadjpangaa.Cx
set_option maxRecDepth 100000
set_option linter.unusedVariables false
open Go Go.Proofs Go.RowKit
noncomputable def CxKn07C : Ctx := ctxOf Try.prog (memoK CxKn07K0 (memoK CxKn07K1 (memoK CxKn07K2 (memoK CxKn07K3 (memoK CxKn07K4 (memoK CxKn07K5 (memoK CxKn07K6 (memoK CxKn07K7 (memoK CxKn07K8 memo0)))))))))
theorem CxKn07_run : isTrue (eval CxKn07C 1000 0 (.call 14 []) .empty) = true := by kernel_rfl
theorem CxKn07_known : KnownB Try.prog 14 := known_of try_ok (memoK_ok CxKn07K0_ok (memoK_ok CxKn07K1_ok (memoK_ok CxKn07K2_ok (memoK_ok CxKn07K3_ok (memoK_ok CxKn07K4_ok (memoK_ok CxKn07K5_ok (memoK_ok CxKn07K6_ok (memoK_ok CxKn07K7_ok (memoK_ok CxKn07K8_ok memo0_ok))))))))) (by kernel_rfl) CxKn07_run
end Go.Proofs.Ythagjhadjpangaa.Cx

/- acme/acmelaw07.DieJudges as an automaton. Made by tools/cxauto.py. -/
namespace Go.Proofs.Ythagjhadjpangaa.Cx
set_option linter.unusedVariables false
set_option linter.unusedSimpArgs false
set_option maxRecDepth 100000
open Go Go.Proofs Go.RowKit
noncomputable abbrev dljCode : Code := funcCode Try.f6
inductive dljN where
  | n0 (p0 p1 p2 p3 p4 : Int)
  | n1 (p0 p1 p2 p3 p4 : Int)
abbrev dljR := Bool
noncomputable def dljD0 (a0 : Bool) (a1 a2 a3 a4 : Int) (a5 : Nat) (a6 a7 : Nat → Int) (a8 : Nat) (a9 a10 a11 a12 : Nat → Int) (a13 : Nat) (a14 a15 : Nat → Int) (a16 : Nat) (a17 : Nat → Int) : DD (Lf dljN dljR) :=
 let z0 := decide (0 + a5 ≤ a5)
 let z1 := fun i => [CV.int IntKind.i64 (IE.x (a6 (0 + i))), CV.int IntKind.i64 (IE.x (a7 (0 + i)))]
 let z2 := decide (0 + a8 ≤ a8)
 let z3 := fun i => [CV.int IntKind.i64 (IE.x (a9 (0 + i))), CV.int IntKind.i64 (IE.x (a10 (0 + i))), CV.int IntKind.i64 (IE.x (a11 (0 + i))), CV.int IntKind.i64 (IE.x (a12 (0 + i)))]
 let z4 := ShapeOk [some IntKind.i64, some IntKind.i64, some IntKind.i64, some IntKind.i64] (tabOf a8 z3) z3
 let z5 := fun i => a9 (0 + i)
 let z6 := fun i => a10 (0 + i)
 let z7 := fun i => a11 (0 + i)
 let z8 := fun i => a12 (0 + i)
 let z9 := rdkA a0 a1 a2 a3 a4 a5 (fun i => a6 (0 + i)) (fun i => a7 (0 + i)) a8 z5 z6 z7 z8
 let z10 := rdaA a8 z5 z6 z7 z8
 let z11 := decide (0 + a13 ≤ a13)
 let z12 := decide (a13 ≤ 10000)
 let z13 := decide (0 + a16 ≤ a16)
 let z14 := decide (a16 ≤ 10000)
 let z15 := decide (a5 ≤ 10000)
 let z16 := decide (a8 ≤ 10000)
 let z17 := fun i => [CV.int IntKind.i64 (IE.x (a6 (0 + (0 + i)))), CV.int IntKind.i64 (IE.x (a7 (0 + (0 + i))))]
 let z18 := ShapeOk [some IntKind.i64, some IntKind.i64] (tabOf a5 z17) z17
 let z19 := decide (a5 ≤ a5)
 let z20 := fun i => [CV.int IntKind.i64 (IE.x (a9 (0 + (0 + i)))), CV.int IntKind.i64 (IE.x (a10 (0 + (0 + i)))), CV.int IntKind.i64 (IE.x (a11 (0 + (0 + i)))), CV.int IntKind.i64 (IE.x (a12 (0 + (0 + i))))]
 let z21 := ShapeOk [some IntKind.i64, some IntKind.i64, some IntKind.i64, some IntKind.i64] (tabOf a8 z20) z20
 let z22 := decide (a8 ≤ a8)
 let z23 := fun i => [CV.int IntKind.i64 (IE.x (a14 (0 + (0 + i)))), CV.int IntKind.i64 (IE.x (a15 (0 + (0 + i))))]
 let z24 := ShapeOk [some IntKind.i64, some IntKind.i64] (tabOf a13 z23) z23
 let z25 := decide (a13 ≤ a13)
 let z26 := fun i => a6 (0 + (0 + i))
 let z27 := fun i => a7 (0 + (0 + i))
 let z28 := fun i => a9 (0 + (0 + i))
 let z29 := fun i => a10 (0 + (0 + i))
 let z30 := fun i => a11 (0 + (0 + i))
 let z31 := fun i => a12 (0 + (0 + i))
 let z32 := djuA a0 a1 a2 a3 a4 a5 z26 z27 a8 z28 z29 z30 z31 a13 (fun i => a14 (0 + (0 + i))) (fun i => a15 (0 + (0 + i)))
 let z33 := AF.fin z32
 let z34 := fun i => [CV.int IntKind.i64 (IE.x (a17 (0 + (0 + i))))]
 let z35 := ShapeOk [some IntKind.i64] (tabOf a16 z34) z34
 let z36 := decide (a16 ≤ a16)
 let z37 := dprA a0 a1 a2 a3 a4 a5 z26 z27 a8 z28 z29 z30 z31 a16 (fun i => a17 (0 + (0 + i)))
 let z38 := AF.fin z37
 let z39 := AF.val z32
 let z40 := Prod.fst z39
 let z41 := Prod.snd z39
 let z42 := AF.val z37
 let z43 := Prod.fst z42
 let z44 := Prod.snd z42
 .ask (Cm.run .gtr ((↑a5 : Int)) 15)
   (.leaf (.done true []))
   (.ask (Cm.run .gtr ((↑a8 : Int)) 45)
   (.leaf (.done true []))
   (.must z0
   (.must (ShapeOk [some IntKind.i64, some IntKind.i64] (tabOf a5 z1) z1)
   (.must z2
   (.must z4
   (.must (AF.fin z9)
   (.ask (Cm.run .eql (AF.val z9) 0)
   (.must z2
   (.must z4
   (.must (AF.fin z10)
   (.ask (Cm.run .gtr (AF.val z10) 300)
   (.leaf (.done true []))
   (.ask (Cm.run .gtr ((↑a13 : Int)) 50)
   (.ask (Cm.run .leq ((↑a13 : Int)) 1000)
   (.leaf (.done true []))
   (.ask (Cm.run .gtr ((↑a16 : Int)) 50)
   (.ask (Cm.run .leq ((↑a16 : Int)) 1000)
   (.leaf (.done true []))
   (.ask (Cm.run .gtr ((↑a13 : Int)) 1005)
   (.leaf (.done true []))
   (.ask (Cm.run .gtr ((↑a16 : Int)) 1005)
   (.leaf (.done true []))
   (.must z11
   (.must z12
   (.must z13
   (.must z14
   (.must z0
   (.must z15
   (.must z2
   (.must z16
   (.must z0
   (.must z18
   (.must z19
   (.must z2
   (.must z21
   (.must z22
   (.must z11
   (.must z24
   (.must z25
   (.must z33
   (.must z0
   (.must z15
   (.must z2
   (.must z16
   (.must z0
   (.must z18
   (.must z19
   (.must z2
   (.must z21
   (.must z22
   (.must z13
   (.must z35
   (.must z36
   (.must z38
   (.leaf (.next (.n0 z40 z41 z43 z44 0) [4, 5, 8, 10])))))))))))))))))))))))))))))))))))))
   (.ask (Cm.run .gtr ((↑a13 : Int)) 1005)
   (.leaf (.done true []))
   (.ask (Cm.run .gtr ((↑a16 : Int)) 1005)
   (.leaf (.done true []))
   (.must z11
   (.must z12
   (.must z13
   (.must z14
   (.must z0
   (.must z15
   (.must z2
   (.must z16
   (.must z0
   (.must z18
   (.must z19
   (.must z2
   (.must z21
   (.must z22
   (.must z11
   (.must z24
   (.must z25
   (.must z33
   (.must z0
   (.must z15
   (.must z2
   (.must z16
   (.must z0
   (.must z18
   (.must z19
   (.must z2
   (.must z21
   (.must z22
   (.must z13
   (.must z35
   (.must z36
   (.must z38
   (.leaf (.next (.n0 z40 z41 z43 z44 0) [4, 5, 8, 10]))))))))))))))))))))))))))))))))))))))
   (.ask (Cm.run .gtr ((↑a16 : Int)) 50)
   (.ask (Cm.run .leq ((↑a16 : Int)) 1000)
   (.leaf (.done true []))
   (.ask (Cm.run .gtr ((↑a13 : Int)) 1005)
   (.leaf (.done true []))
   (.ask (Cm.run .gtr ((↑a16 : Int)) 1005)
   (.leaf (.done true []))
   (.must z11
   (.must z12
   (.must z13
   (.must z14
   (.must z0
   (.must z15
   (.must z2
   (.must z16
   (.must z0
   (.must z18
   (.must z19
   (.must z2
   (.must z21
   (.must z22
   (.must z11
   (.must z24
   (.must z25
   (.must z33
   (.must z0
   (.must z15
   (.must z2
   (.must z16
   (.must z0
   (.must z18
   (.must z19
   (.must z2
   (.must z21
   (.must z22
   (.must z13
   (.must z35
   (.must z36
   (.must z38
   (.leaf (.next (.n0 z40 z41 z43 z44 0) [4, 5, 8, 10])))))))))))))))))))))))))))))))))))))
   (.ask (Cm.run .gtr ((↑a13 : Int)) 1005)
   (.leaf (.done true []))
   (.ask (Cm.run .gtr ((↑a16 : Int)) 1005)
   (.leaf (.done true []))
   (.must z11
   (.must z12
   (.must z13
   (.must z14
   (.must z0
   (.must z15
   (.must z2
   (.must z16
   (.must z0
   (.must z18
   (.must z19
   (.must z2
   (.must z21
   (.must z22
   (.must z11
   (.must z24
   (.must z25
   (.must z33
   (.must z0
   (.must z15
   (.must z2
   (.must z16
   (.must z0
   (.must z18
   (.must z19
   (.must z2
   (.must z21
   (.must z22
   (.must z13
   (.must z35
   (.must z36
   (.must z38
   (.leaf (.next (.n0 z40 z41 z43 z44 0) [4, 5, 8, 10]))))))))))))))))))))))))))))))))))))))))))
   (.ask (Cm.run .gtr ((↑a13 : Int)) 50)
   (.ask (Cm.run .leq ((↑a13 : Int)) 1000)
   (.leaf (.done true []))
   (.ask (Cm.run .gtr ((↑a16 : Int)) 50)
   (.ask (Cm.run .leq ((↑a16 : Int)) 1000)
   (.leaf (.done true []))
   (.ask (Cm.run .gtr ((↑a13 : Int)) 1005)
   (.leaf (.done true []))
   (.ask (Cm.run .gtr ((↑a16 : Int)) 1005)
   (.leaf (.done true []))
   (.must z11
   (.must z12
   (.must z13
   (.must z14
   (.must z0
   (.must z15
   (.must z2
   (.must z16
   (.must z0
   (.must z18
   (.must z19
   (.must z2
   (.must z21
   (.must z22
   (.must z11
   (.must z24
   (.must z25
   (.must z33
   (.must z0
   (.must z15
   (.must z2
   (.must z16
   (.must z0
   (.must z18
   (.must z19
   (.must z2
   (.must z21
   (.must z22
   (.must z13
   (.must z35
   (.must z36
   (.must z38
   (.leaf (.next (.n0 z40 z41 z43 z44 0) [4, 5, 8, 10])))))))))))))))))))))))))))))))))))))
   (.ask (Cm.run .gtr ((↑a13 : Int)) 1005)
   (.leaf (.done true []))
   (.ask (Cm.run .gtr ((↑a16 : Int)) 1005)
   (.leaf (.done true []))
   (.must z11
   (.must z12
   (.must z13
   (.must z14
   (.must z0
   (.must z15
   (.must z2
   (.must z16
   (.must z0
   (.must z18
   (.must z19
   (.must z2
   (.must z21
   (.must z22
   (.must z11
   (.must z24
   (.must z25
   (.must z33
   (.must z0
   (.must z15
   (.must z2
   (.must z16
   (.must z0
   (.must z18
   (.must z19
   (.must z2
   (.must z21
   (.must z22
   (.must z13
   (.must z35
   (.must z36
   (.must z38
   (.leaf (.next (.n0 z40 z41 z43 z44 0) [4, 5, 8, 10]))))))))))))))))))))))))))))))))))))))
   (.ask (Cm.run .gtr ((↑a16 : Int)) 50)
   (.ask (Cm.run .leq ((↑a16 : Int)) 1000)
   (.leaf (.done true []))
   (.ask (Cm.run .gtr ((↑a13 : Int)) 1005)
   (.leaf (.done true []))
   (.ask (Cm.run .gtr ((↑a16 : Int)) 1005)
   (.leaf (.done true []))
   (.must z11
   (.must z12
   (.must z13
   (.must z14
   (.must z0
   (.must z15
   (.must z2
   (.must z16
   (.must z0
   (.must z18
   (.must z19
   (.must z2
   (.must z21
   (.must z22
   (.must z11
   (.must z24
   (.must z25
   (.must z33
   (.must z0
   (.must z15
   (.must z2
   (.must z16
   (.must z0
   (.must z18
   (.must z19
   (.must z2
   (.must z21
   (.must z22
   (.must z13
   (.must z35
   (.must z36
   (.must z38
   (.leaf (.next (.n0 z40 z41 z43 z44 0) [4, 5, 8, 10])))))))))))))))))))))))))))))))))))))
   (.ask (Cm.run .gtr ((↑a13 : Int)) 1005)
   (.leaf (.done true []))
   (.ask (Cm.run .gtr ((↑a16 : Int)) 1005)
   (.leaf (.done true []))
   (.must z11
   (.must z12
   (.must z13
   (.must z14
   (.must z0
   (.must z15
   (.must z2
   (.must z16
   (.must z0
   (.must z18
   (.must z19
   (.must z2
   (.must z21
   (.must z22
   (.must z11
   (.must z24
   (.must z25
   (.must z33
   (.must z0
   (.must z15
   (.must z2
   (.must z16
   (.must z0
   (.must z18
   (.must z19
   (.must z2
   (.must z21
   (.must z22
   (.must z13
   (.must z35
   (.must z36
   (.must z38
   (.leaf (.next (.n0 z40 z41 z43 z44 0) [4, 5, 8, 10])))))))))))))))))))))))))))))))))))))))))))))

noncomputable def dljD (a0 : Bool) (a1 a2 a3 a4 : Int) (a5 : Nat) (a6 a7 : Nat → Int) (a8 : Nat) (a9 a10 a11 a12 : Nat → Int) (a13 : Nat) (a14 a15 : Nat → Int) (a16 : Nat) (a17 : Nat → Int) : dljN → DD (Lf dljN dljR)
 | .n0 p0 p1 p2 p3 p4 =>
 let z0 := decide (0 ≤ p4)
 let z1 := decide (0 + Int.toNat p4 < a13)
 .ask (Cm.run .lss p4 (↑a13 : Int))
   (.must z0
   (.must (decide (p4 < (↑a13 : Int)))
   (.must z1
   (.must z0
   (.must (decide (p4 < (↑a13 : Int)))
   (.must z1
   (.ask (Cm.run .eql (a14 (0 + (0 + Int.toNat p4))) (a14 (0 + Int.toNat p4)))
   (.ask (Cm.run .eql (a15 (0 + (0 + Int.toNat p4))) (a15 (0 + Int.toNat p4)))
   (.leaf (.next (.n0 p0 p1 p2 p3 (Ar.run .add .i64 p4 1)) [4, 5, 6, 7]))
   (.leaf (.done false [])))
   (.leaf (.done false [])))))))))
   (.leaf (.next (.n1 p0 p1 p2 p3 0) [4, 5, 7]))
 | .n1 p0 p1 p2 p3 p4 =>
 let z0 := decide (0 ≤ p4)
 let z1 := decide (0 + Int.toNat p4 < a16)
 let z2 := decide (0 + a5 ≤ a5)
 let z3 := fun i => [CV.int IntKind.i64 (IE.x (a6 (0 + i))), CV.int IntKind.i64 (IE.x (a7 (0 + i)))]
 let z4 := ShapeOk [some IntKind.i64, some IntKind.i64] (tabOf a5 z3) z3
 let z5 := decide (0 + a8 ≤ a8)
 let z6 := fun i => [CV.int IntKind.i64 (IE.x (a9 (0 + i))), CV.int IntKind.i64 (IE.x (a10 (0 + i))), CV.int IntKind.i64 (IE.x (a11 (0 + i))), CV.int IntKind.i64 (IE.x (a12 (0 + i)))]
 let z7 := ShapeOk [some IntKind.i64, some IntKind.i64, some IntKind.i64, some IntKind.i64] (tabOf a8 z6) z6
 let z8 := fun i => a6 (0 + i)
 let z9 := fun i => a7 (0 + i)
 let z10 := fun i => a9 (0 + i)
 let z11 := fun i => a10 (0 + i)
 let z12 := fun i => a11 (0 + i)
 let z13 := fun i => a12 (0 + i)
 let z14 := rdkA a0 a1 a2 a3 a4 a5 z8 z9 a8 z10 z11 z12 z13
 let z15 := AF.val z14
 let z16 := Cm.run .eql p2 0
 let z17 := decide (0 + a13 ≤ a13)
 let z18 := fun i => [CV.int IntKind.i64 (IE.x (a14 (0 + i))), CV.int IntKind.i64 (IE.x (a15 (0 + i)))]
 let z19 := ShapeOk [some IntKind.i64, some IntKind.i64] (tabOf a13 z18) z18
 let z20 := fun i => a14 (0 + i)
 let z21 := fun i => a15 (0 + i)
 let z22 := rdsA a8 z10 z11 z12 z13 a13 z20 z21
 let z23 := AF.val z22
 let z24 := rdjA a0 a1 a2 a3 a4 a5 z8 z9 a8 z10 z11 z12 z13 a13 z20 z21
 let z25 := Cm.run .neq p1 z23
 let z26 := Cm.run .eql p3 5
 let z27 := decide (0 + a16 ≤ a16)
 let z28 := fun i => [CV.int IntKind.i64 (IE.x (a17 (0 + i)))]
 let z29 := ShapeOk [some IntKind.i64] (tabOf a16 z28) z28
 let z30 := fun i => a17 (0 + i)
 let z31 := rdcA a8 z10 z11 z12 z13 a16 z30
 let z32 := AF.fin z31
 let z33 := !AF.val z31
 let z34 := Cm.run .eql p3 2
 let z35 := Cm.run .eql p3 0
 let z36 := rdqA a0 a1 a2 a3 a4 a5 z8 z9 a8 z10 z11 z12 z13 a16 z30
 let z37 := AF.fin z36
 let z38 := Cm.run .eql p2 (AF.val z36)
 .ask (Cm.run .lss p4 (↑a16 : Int))
   (.must z0
   (.must (decide (p4 < (↑a16 : Int)))
   (.must z1
   (.must z0
   (.must (decide (p4 < (↑a16 : Int)))
   (.must z1
   (.ask (Cm.run .neq (a17 (0 + (0 + Int.toNat p4))) (a17 (0 + Int.toNat p4)))
   (.leaf (.done false []))
   (.leaf (.next (.n1 p0 p1 p2 p3 (Ar.run .add .i64 p4 1)) [4, 5, 6])))))))))
   (.must z2
   (.must z4
   (.must z5
   (.must z7
   (.must (AF.fin z14)
   (.ask (Cm.run .neq z15 0)
   (.ask (Cm.run .eql p1 z15)
   (.ask (Cm.run .eql p3 z15)
   (.ask (Cm.run .eql p0 0)
   (.ask z16
   (.leaf (.done true []))
   (.leaf (.done false [])))
   (.leaf (.done false [])))
   (.leaf (.done false [])))
   (.leaf (.done false [])))
   (.must z5
   (.must z7
   (.must z17
   (.must z19
   (.must (AF.fin z22)
   (.ask (Cm.run .eql z23 0)
   (.must z2
   (.must z4
   (.must z5
   (.must z7
   (.must z17
   (.must z19
   (.must (AF.fin z24)
   (.ask z25
   (.leaf (.done false []))
   (.ask (Cm.run .neq p0 (AF.val z24))
   (.leaf (.done false []))
   (.ask (Cm.run .gtr ((↑a16 : Int)) 1000)
   (.ask z26
   (.ask z16
   (.leaf (.done true []))
   (.leaf (.done false [])))
   (.leaf (.done false [])))
   (.must z5
   (.must z7
   (.must z27
   (.must z29
   (.must z32
   (.ask z33
   (.ask z34
   (.ask z16
   (.leaf (.done true []))
   (.leaf (.done false [])))
   (.leaf (.done false [])))
   (.ask z35
   (.must z2
   (.must z4
   (.must z5
   (.must z7
   (.must z27
   (.must z29
   (.must z37
   (.ask z38
   (.leaf (.done true []))
   (.leaf (.done false []))))))))))
   (.leaf (.done false [])))))))))))))))))))
   (.ask z25
   (.leaf (.done false []))
   (.ask (Cm.run .neq p0 0)
   (.leaf (.done false []))
   (.ask (Cm.run .gtr ((↑a16 : Int)) 1000)
   (.ask z26
   (.ask z16
   (.leaf (.done true []))
   (.leaf (.done false [])))
   (.leaf (.done false [])))
   (.must z5
   (.must z7
   (.must z27
   (.must z29
   (.must z32
   (.ask z33
   (.ask z34
   (.ask z16
   (.leaf (.done true []))
   (.leaf (.done false [])))
   (.leaf (.done false [])))
   (.ask z35
   (.must z2
   (.must z4
   (.must z5
   (.must z7
   (.must z27
   (.must z29
   (.must z37
   (.ask z38
   (.leaf (.done true []))
   (.leaf (.done false []))))))))))
   (.leaf (.done false []))))))))))))))))))))))))

noncomputable def dljA (a0 : Bool) (a1 a2 a3 a4 : Int) (a5 : Nat) (a6 a7 : Nat → Int) (a8 : Nat) (a9 a10 a11 a12 : Nat → Int) (a13 : Nat) (a14 a15 : Nat → Int) (a16 : Nat) (a17 : Nat → Int) : AF dljN dljR where
  code := dljCode
  base := 4
  nt := 199
  m := 400
  un := []
  W := []
  h0 := [(0, ⟨.arg a5 2 (fun i => [.int .i64 (.x (a6 i)), .int .i64 (.x (a7 i))]) (fun _ => ⟨rfl, rfl⟩), 2, true, none⟩), (1, ⟨.arg a8 4 (fun i => [.int .i64 (.x (a9 i)), .int .i64 (.x (a10 i)), .int .i64 (.x (a11 i)), .int .i64 (.x (a12 i))]) (fun _ => ⟨rfl, rfl⟩), 4, true, none⟩), (2, ⟨.arg a13 2 (fun i => [.int .i64 (.x (a14 i)), .int .i64 (.x (a15 i))]) (fun _ => ⟨rfl, rfl⟩), 2, true, none⟩), (3, ⟨.arg a16 1 (fun i => [.int .i64 (.x (a17 i))]) (fun _ => ⟨rfl, rfl⟩), 1, true, none⟩)]
  args := [.agg [.bool (.x a0), .int .i64 (.x a1), .int .i64 (.x a2), .int .i64 (.x a3), .int .i64 (.x a4), .sla 0 2 0 a5], .sla 1 4 0 a8, .agg [.sla 2 2 0 a13, .sla 3 1 0 a16]]
  res := (Try.f6).results.toList
  path := fun a => match a with
   | .n0 p0 p1 p2 p3 p4 => [1, 1, 1, 1, 1, 0, 1, 0]
   | .n1 p0 p1 p2 p3 p4 => [1, 1, 1, 1, 1, 1, 0, 1, 0]
  pd := fun a => match a with
   | .n0 p0 p1 p2 p3 p4 => ⟨[(1, .sla 1 4 0 a8), (3, .ptr (some (4, 0))), (5, .ptr (some (5, 0))), (7, .slx 6 2 0 a13 a13), (8, .slx 7 1 0 a16 a16), (9, .int .i64 (.x p0)), (10, .int .i64 (.x p1)), (11, .int .i64 (.x p2)), (12, .int .i64 (.x p3)), (13, .int .i64 (.x p4))], [(4, ⟨.lit [.bool (.x a0), .int .i64 (.x a1), .int .i64 (.x a2), .int .i64 (.x a3), .int .i64 (.x a4), .sla 0 2 0 a5], 0, true, none⟩), (5, ⟨.lit [.sla 2 2 0 a13, .sla 3 1 0 a16], 0, true, none⟩), (6, ⟨.rows a13 2 (fun i => [.int .i64 (.x (a14 (0 + i))), .int .i64 (.x (a15 (0 + i)))]) (fun _ => ⟨rfl, rfl⟩), 2, true, none⟩), (7, ⟨.rows a16 1 (fun i => [.int .i64 (.x (a17 (0 + i)))]) (fun _ => ⟨rfl, rfl⟩), 1, true, none⟩)], 8, []⟩
   | .n1 p0 p1 p2 p3 p4 => ⟨[(1, .sla 1 4 0 a8), (3, .ptr (some (4, 0))), (5, .ptr (some (5, 0))), (8, .slx 6 1 0 a16 a16), (9, .int .i64 (.x p0)), (10, .int .i64 (.x p1)), (11, .int .i64 (.x p2)), (12, .int .i64 (.x p3)), (14, .int .i64 (.x p4))], [(4, ⟨.lit [.bool (.x a0), .int .i64 (.x a1), .int .i64 (.x a2), .int .i64 (.x a3), .int .i64 (.x a4), .sla 0 2 0 a5], 0, true, none⟩), (5, ⟨.lit [.sla 2 2 0 a13, .sla 3 1 0 a16], 0, true, none⟩), (6, ⟨.rows a16 1 (fun i => [.int .i64 (.x (a17 (0 + i)))]) (fun _ => ⟨rfl, rfl⟩), 1, true, none⟩)], 7, []⟩
  D0 := dljD0 a0 a1 a2 a3 a4 a5 a6 a7 a8 a9 a10 a11 a12 a13 a14 a15 a16 a17
  D := dljD a0 a1 a2 a3 a4 a5 a6 a7 a8 a9 a10 a11 a12 a13 a14 a15 a16 a17
  rc := (fun v => .bool (.x v))
  rh := (fun v => [])
  rn := (fun v => 4)
  rx := (fun v => [])
  rgo := (fun _ => none)
theorem dljstart (a0 : Bool) (a1 a2 a3 a4 : Int) (a5 : Nat) (a6 a7 : Nat → Int) (a8 : Nat) (a9 a10 a11 a12 : Nat → Int) (a13 : Nat) (a14 a15 : Nat → Int) (a16 : Nat) (a17 : Nat → Int) : AF.edgeOk (dljA a0 a1 a2 a3 a4 a5 a6 a7 a8 a9 a10 a11 a12 a13 a14 a15 a16 a17) (ctxOf Try.prog memo0) (dljD0 a0 a1 a2 a3 a4 a5 a6 a7 a8 a9 a10 a11 a12 a13 a14 a15 a16 a17) (AF.run0 (dljA a0 a1 a2 a3 a4 a5 a6 a7 a8 a9 a10 a11 a12 a13 a14 a15 a16 a17) (ctxOf Try.prog (memoS 21 rdkP rdkF rdkW rdkH 2 (memoS 22 rdaP rdaF rdaW rdaH 1 (memoS 34 djuP djuF djuW djuH 3 (memoS 35 dprP dprF dprW dprH 3 (memoS 38 rdcP rdcF rdcW rdcH 2 (memoS 36 rdsP rdsF rdsW rdsH 2 (memoS 37 rdjP rdjF rdjW rdjH 3 (memoS 39 rdqP rdqF rdqW rdqH 3 (memoB [14]))))))))))) := by unfold AF.edgeOk; kernel_rfl
theorem dljnode0 (a0 : Bool) (a1 a2 a3 a4 : Int) (a5 : Nat) (a6 a7 : Nat → Int) (a8 : Nat) (a9 a10 a11 a12 : Nat → Int) (a13 : Nat) (a14 a15 : Nat → Int) (a16 : Nat) (a17 : Nat → Int) (p0 p1 p2 p3 p4 : Int) : AF.edgeOk (dljA a0 a1 a2 a3 a4 a5 a6 a7 a8 a9 a10 a11 a12 a13 a14 a15 a16 a17) (ctxOf Try.prog memo0) (dljD a0 a1 a2 a3 a4 a5 a6 a7 a8 a9 a10 a11 a12 a13 a14 a15 a16 a17 (.n0 p0 p1 p2 p3 p4)) (AF.runN (dljA a0 a1 a2 a3 a4 a5 a6 a7 a8 a9 a10 a11 a12 a13 a14 a15 a16 a17) (ctxOf Try.prog (memoS 21 rdkP rdkF rdkW rdkH 2 (memoS 22 rdaP rdaF rdaW rdaH 1 (memoS 34 djuP djuF djuW djuH 3 (memoS 35 dprP dprF dprW dprH 3 (memoS 38 rdcP rdcF rdcW rdcH 2 (memoS 36 rdsP rdsF rdsW rdsH 2 (memoS 37 rdjP rdjF rdjW rdjH 3 (memoS 39 rdqP rdqF rdqW rdqH 3 (memoB [14])))))))))) (.n0 p0 p1 p2 p3 p4)) := by unfold AF.edgeOk; kernel_rfl
theorem dljnode1 (a0 : Bool) (a1 a2 a3 a4 : Int) (a5 : Nat) (a6 a7 : Nat → Int) (a8 : Nat) (a9 a10 a11 a12 : Nat → Int) (a13 : Nat) (a14 a15 : Nat → Int) (a16 : Nat) (a17 : Nat → Int) (p0 p1 p2 p3 p4 : Int) : AF.edgeOk (dljA a0 a1 a2 a3 a4 a5 a6 a7 a8 a9 a10 a11 a12 a13 a14 a15 a16 a17) (ctxOf Try.prog memo0) (dljD a0 a1 a2 a3 a4 a5 a6 a7 a8 a9 a10 a11 a12 a13 a14 a15 a16 a17 (.n1 p0 p1 p2 p3 p4)) (AF.runN (dljA a0 a1 a2 a3 a4 a5 a6 a7 a8 a9 a10 a11 a12 a13 a14 a15 a16 a17) (ctxOf Try.prog (memoS 21 rdkP rdkF rdkW rdkH 2 (memoS 22 rdaP rdaF rdaW rdaH 1 (memoS 34 djuP djuF djuW djuH 3 (memoS 35 dprP dprF dprW dprH 3 (memoS 38 rdcP rdcF rdcW rdcH 2 (memoS 36 rdsP rdsF rdsW rdsH 2 (memoS 37 rdjP rdjF rdjW rdjH 3 (memoS 39 rdqP rdqF rdqW rdqH 3 (memoB [14])))))))))) (.n1 p0 p1 p2 p3 p4)) := by unfold AF.edgeOk; kernel_rfl
theorem dljok (a0 : Bool) (a1 a2 a3 a4 : Int) (a5 : Nat) (a6 a7 : Nat → Int) (a8 : Nat) (a9 a10 a11 a12 : Nat → Int) (a13 : Nat) (a14 a15 : Nat → Int) (a16 : Nat) (a17 : Nat → Int) : (dljA a0 a1 a2 a3 a4 a5 a6 a7 a8 a9 a10 a11 a12 a13 a14 a15 a16 a17).Ok Try.prog (ctxOf Try.prog (memoS 21 rdkP rdkF rdkW rdkH 2 (memoS 22 rdaP rdaF rdaW rdaH 1 (memoS 34 djuP djuF djuW djuH 3 (memoS 35 dprP dprF dprW dprH 3 (memoS 38 rdcP rdcF rdcW rdcH 2 (memoS 36 rdsP rdsF rdsW rdsH 2 (memoS 37 rdjP rdjF rdjW rdjH 3 (memoS 39 rdqP rdqF rdqW rdqH 3 (memoB [14])))))))))) where
  regs := by kernel_rfl
  h0 := by kernel_rfl
  start := dljstart a0 a1 a2 a3 a4 a5 a6 a7 a8 a9 a10 a11 a12 a13 a14 a15 a16 a17
  node := fun a _ => match a with
   | .n0 p0 p1 p2 p3 p4 => dljnode0 a0 a1 a2 a3 a4 a5 a6 a7 a8 a9 a10 a11 a12 a13 a14 a15 a16 a17 p0 p1 p2 p3 p4
   | .n1 p0 p1 p2 p3 p4 => dljnode1 a0 a1 a2 a3 a4 a5 a6 a7 a8 a9 a10 a11 a12 a13 a14 a15 a16 a17 p0 p1 p2 p3 p4
  pd := fun a => match a with
   | .n0 p0 p1 p2 p3 p4 => ⟨(fa_cons rfl (fa_cons rfl (fa_cons rfl (fa_cons rfl (fa_cons rfl (fa_cons rfl (fa_cons rfl (fa_cons rfl (fa_cons rfl (fa_cons rfl fa_nil)))))))))), (fa_cons ⟨.inl (Nat.le_of_ble_eq_true rfl), rfl, rfl⟩ (fa_cons ⟨.inl (Nat.le_of_ble_eq_true rfl), rfl, rfl⟩ (fa_cons ⟨.inl (Nat.le_of_ble_eq_true rfl), (fun _ => rfl), rfl⟩ (fa_cons ⟨.inl (Nat.le_of_ble_eq_true rfl), (fun _ => rfl), rfl⟩ fa_nil)))), fa_nil, rfl⟩
   | .n1 p0 p1 p2 p3 p4 => ⟨(fa_cons rfl (fa_cons rfl (fa_cons rfl (fa_cons rfl (fa_cons rfl (fa_cons rfl (fa_cons rfl (fa_cons rfl (fa_cons rfl fa_nil))))))))), (fa_cons ⟨.inl (Nat.le_of_ble_eq_true rfl), rfl, rfl⟩ (fa_cons ⟨.inl (Nat.le_of_ble_eq_true rfl), rfl, rfl⟩ (fa_cons ⟨.inl (Nat.le_of_ble_eq_true rfl), (fun _ => rfl), rfl⟩ fa_nil))), fa_nil, rfl⟩
  le := fun a => match a with
   | .n0 p0 p1 p2 p3 p4 => Nat.le_of_ble_eq_true rfl
   | .n1 p0 p1 p2 p3 p4 => Nat.le_of_ble_eq_true rfl
  rd := fun v => ⟨⟨fa_nil, fa_nil, fa_nil, rfl⟩, rfl⟩
  wb := rfl
theorem dljhR {ρ : Env} (a0 : Bool) (a1 a2 a3 a4 : Int) (a5 : Nat) (a6 a7 : Nat → Int) (a8 : Nat) (a9 a10 a11 a12 : Nat → Int) (a13 : Nat) (a14 a15 : Nat → Int) (a16 : Nat) (a17 : Nat → Int) (hM : MemoOk Try.prog (ctxOf Try.prog (memoS 21 rdkP rdkF rdkW rdkH 2 (memoS 22 rdaP rdaF rdaW rdaH 1 (memoS 34 djuP djuF djuW djuH 3 (memoS 35 dprP dprF dprW dprH 3 (memoS 38 rdcP rdcF rdcW rdcH 2 (memoS 36 rdsP rdsF rdsW rdsH 2 (memoS 37 rdjP rdjF rdjW rdjH 3 (memoS 39 rdqP rdqF rdqW rdqH 3 (memoB [14])))))))))) ρ) : ∀ X a q n D, FxOk ρ X → X.base = (dljA a0 a1 a2 a3 a4 a5 a6 a7 a8 a9 a10 a11 a12 a13 a14 a15 a16 a17).base → X.nt = (dljA a0 a1 a2 a3 a4 a5 a6 a7 a8 a9 a10 a11 a12 a13 a14 a15 a16 a17).nt → X.W = (dljA a0 a1 a2 a3 a4 a5 a6 a7 a8 a9 a10 a11 a12 a13 a14 a15 a16 a17).W → (dljA a0 a1 a2 a3 a4 a5 a6 a7 a8 a9 a10 a11 a12 a13 a14 a15 a16 a17).rgo a = some q → q n = some D → (dljA a0 a1 a2 a3 a4 a5 a6 a7 a8 a9 a10 a11 a12 a13 a14 a15 a16 a17).RangeOk Try.prog ρ X a D := AF.noRange rfl
theorem dljctr {ρ : Env} (a0 : Bool) (a1 a2 a3 a4 : Int) (a5 : Nat) (a6 a7 : Nat → Int) (a8 : Nat) (a9 a10 a11 a12 : Nat → Int) (a13 : Nat) (a14 a15 : Nat → Int) (a16 : Nat) (a17 : Nat → Int) {n : Nat} {v : dljR} (hM : MemoOk Try.prog (ctxOf Try.prog (memoS 21 rdkP rdkF rdkW rdkH 2 (memoS 22 rdaP rdaF rdaW rdaH 1 (memoS 34 djuP djuF djuW djuH 3 (memoS 35 dprP dprF dprW dprH 3 (memoS 38 rdcP rdcF rdcW rdcH 2 (memoS 36 rdsP rdsF rdsW rdsH 2 (memoS 37 rdjP rdjF rdjW rdjH 3 (memoS 39 rdqP rdqF rdqW rdqH 3 (memoB [14])))))))))) ρ) (hv : (dljA a0 a1 a2 a3 a4 a5 a6 a7 a8 a9 a10 a11 a12 a13 a14 a15 a16 a17).run n = some v) :
    Ctr Try.prog ρ 6 (dljA a0 a1 a2 a3 a4 a5 a6 a7 a8 a9 a10 a11 a12 a13 a14 a15 a16 a17).args (dljA a0 a1 a2 a3 a4 a5 a6 a7 a8 a9 a10 a11 a12 a13 a14 a15 a16 a17).H0 (dljA a0 a1 a2 a3 a4 a5 a6 a7 a8 a9 a10 a11 a12 a13 a14 a15 a16 a17).base (dljA a0 a1 a2 a3 a4 a5 a6 a7 a8 a9 a10 a11 a12 a13 a14 a15 a16 a17).W ((dljA a0 a1 a2 a3 a4 a5 a6 a7 a8 a9 a10 a11 a12 a13 a14 a15 a16 a17).rc v) (putH (dljA a0 a1 a2 a3 a4 a5 a6 a7 a8 a9 a10 a11 a12 a13 a14 a15 a16 a17).H0 ((dljA a0 a1 a2 a3 a4 a5 a6 a7 a8 a9 a10 a11 a12 a13 a14 a15 a16 a17).rh v ++ (dljA a0 a1 a2 a3 a4 a5 a6 a7 a8 a9 a10 a11 a12 a13 a14 a15 a16 a17).rx v)) ((dljA a0 a1 a2 a3 a4 a5 a6 a7 a8 a9 a10 a11 a12 a13 a14 a15 a16 a17).rn v) :=
  AF.ctr try_ok hM (dljok a0 a1 a2 a3 a4 a5 a6 a7 a8 a9 a10 a11 a12 a13 a14 a15 a16 a17) (fn := Try.f6) Try.func6 rfl rfl (Nat.le_of_ble_eq_true rfl) rfl (dljhR a0 a1 a2 a3 a4 a5 a6 a7 a8 a9 a10 a11 a12 a13 a14 a15 a16 a17 hM) hv
theorem dljmem {ρ : Env} : MemoOk Try.prog (ctxOf Try.prog (memoS 21 rdkP rdkF rdkW rdkH 2 (memoS 22 rdaP rdaF rdaW rdaH 1 (memoS 34 djuP djuF djuW djuH 3 (memoS 35 dprP dprF dprW dprH 3 (memoS 38 rdcP rdcF rdcW rdcH 2 (memoS 36 rdsP rdsF rdsW rdsH 2 (memoS 37 rdjP rdjF rdjW rdjH 3 (memoS 39 rdqP rdqF rdqW rdqH 3 (memoB [14])))))))))) ρ := (memoS_ok (rdkknown rdkmem) (memoS_ok (rdaknown rdamem) (memoS_ok (djuknown djumem) (memoS_ok (dprknown dprmem) (memoS_ok (rdcknown rdcmem) (memoS_ok (rdsknown rdsmem) (memoS_ok (rdjknown rdjmem) (memoS_ok (rdqknown rdqmem) (memoB_ok (fun f hf => by
    simp only [List.mem_cons, List.not_mem_nil, or_false] at hf
    subst hf
    exact CxKn07_known))))))))))
instance : Inhabited dljR := ⟨false⟩
end Go.Proofs.Ythagjhadjpangaa.Cx

/- DieJudges: the law's run. -/
namespace Go.Proofs.Ythagjhadjpangaa.Cx
set_option linter.unusedVariables false
set_option linter.unusedSimpArgs false
set_option maxRecDepth 100000
set_option maxHeartbeats 4000000
open Go Go.RowKit
structure JI (a0 : Bool) (a1 a2 a3 a4 : Int) (a5 : Nat) (a6 a7 : Nat → Int) (a8 : Nat) (a9 a10 a11 a12 : Nat → Int) (a13 : Nat) (a14 a15 : Nat → Int) (a16 : Nat) (a17 : Nat → Int) (p0 p1 p2 p3 : Int) : Prop where
  s5 : a5 ≤ 15
  s8 : a8 ≤ 45
  s13 : a13 ≤ 1005
  s16 : a16 ≤ 1005
  ju : JudE a0 a1 a2 a3 a4 a5 a6 a7 a8 a9 a10 a11 a12 a13 a14 a15 (p0, p1)
  pr : ProE a0 a1 a2 a3 a4 a5 a6 a7 a8 a9 a10 a11 a12 a16 a17 (p2, p3)
def DljI (a0 : Bool) (a1 a2 a3 a4 : Int) (a5 : Nat) (a6 a7 : Nat → Int) (a8 : Nat) (a9 a10 a11 a12 : Nat → Int) (a13 : Nat) (a14 a15 : Nat → Int) (a16 : Nat) (a17 : Nat → Int) : dljN → Prop
  | .n0 p0 p1 p2 p3 p4 => JI a0 a1 a2 a3 a4 a5 a6 a7 a8 a9 a10 a11 a12 a13 a14 a15 a16 a17 p0 p1 p2 p3 ∧ 0 ≤ p4 ∧ p4 ≤ a13
  | .n1 p0 p1 p2 p3 p4 => JI a0 a1 a2 a3 a4 a5 a6 a7 a8 a9 a10 a11 a12 a13 a14 a15 a16 a17 p0 p1 p2 p3 ∧ 0 ≤ p4 ∧ p4 ≤ a16
theorem dlj_sat (a0 : Bool) (a1 a2 a3 a4 : Int) (a5 : Nat) (a6 a7 : Nat → Int) (a8 : Nat) (a9 a10 a11 a12 : Nat → Int) (a13 : Nat) (a14 a15 : Nat → Int) (a16 : Nat) (a17 : Nat → Int) : DD.sat (DljI a0 a1 a2 a3 a4 a5 a6 a7 a8 a9 a10 a11 a12 a13 a14 a15 a16 a17) (fun v => v = true) (dljD0 a0 a1 a2 a3 a4 a5 a6 a7 a8 a9 a10 a11 a12 a13 a14 a15 a16 a17) := by
  by_cases hb1 : a5 > 15
  · unfold dljD0
    simp only [DD.sat, cmGtr, cmGtrF]
    exact ⟨fun h => trivial, fun h => by omega⟩
  by_cases hb2 : a8 > 45
  · unfold dljD0
    simp only [DD.sat, cmGtr, cmGtrF]
    exact ⟨fun h => trivial, fun h => ⟨fun h => trivial, fun h => by omega⟩⟩
  have hn' : a5 ≤ 10000 := by omega
  have hm' : a8 ≤ 10000 := by omega
  obtain ⟨cf, cs⟩ := dck_val (a0 := a0) (a1 := a1) (a2 := a2) (a3 := a3) (a4 := a4) (a5 := a5) (a6 := a6) (a7 := a7) (a8 := a8) (a9 := a9) (a10 := a10) (a11 := a11) (a12 := a12) hn' hm'
  obtain ⟨kf, ks⟩ := rdk_val (a0 := a0) (a1 := a1) (a2 := a2) (a3 := a3) (a4 := a4) (a5 := a5) (a6 := a6) (a7 := a7) (a8 := a8) (a9 := a9) (a10 := a10) (a11 := a11) (a12 := a12) hn' hm'
  by_cases hb3 : a13 > 1005 ∨ a16 > 1005
  · by_cases hC : CkS a5 a8 (ToolOk a5 a6 a7 a1 a2 a3 a4) a9 a10 a11 a12 0
    · have kvE : AF.val (rdkA a0 a1 a2 a3 a4 a5 (fun i => a6 i) (fun i => a7 i) a8 (fun i => a9 i) (fun i => a10 i) (fun i => a11 i) (fun i => a12 i)) = 0 := ks.same hC
      obtain ⟨af, av⟩ := rda_val (a0 := a8) (a1 := a9) (a2 := a10) (a3 := a11) (a4 := a12) hC.job.few hC.job.pc
      have avE : AF.val (rdaA a8 (fun i => a9 i) (fun i => a10 i) (fun i => a11 i) (fun i => a12 i)) = _ := av
      unfold dljD0
      simp only [DD.sat, Nat.zero_add, cmLss, cmLssF, cmLeq, cmLeqF, cmGtr, cmGtrF, cmGeq, cmGeqF, cmEql, cmEqlF, cmNeq, cmNeqF, decide_eq_true_eq, Bool.not_eq_true', Bool.not_eq_false', kvE, avE]
      repeat' (first
      | exact Nat.le_refl _
      | exact shape_ok fun i _ => rfl
      | assumption
      | trivial
      | (intro hx; first | (exfalso; omega) | skip)
      | apply And.intro
      | omega)
    · obtain ⟨e, he⟩ : ∃ e, AF.val (rdkA a0 a1 a2 a3 a4 a5 (fun i => a6 i) (fun i => a7 i) a8 (fun i => a9 i) (fun i => a10 i) (fun i => a11 i) (fun i => a12 i)) = e := ⟨_, rfl⟩
      have hne : e ≠ 0 := fun hx => hC (by rw [hx] at he; have he' : AF.val (rdkA a0 a1 a2 a3 a4 a5 a6 a7 a8 a9 a10 a11 a12) = 0 := he; rw [he'] at ks; exact ks)
      unfold dljD0
      simp only [DD.sat, Nat.zero_add, cmLss, cmLssF, cmLeq, cmLeqF, cmGtr, cmGtrF, cmGeq, cmGeqF, cmEql, cmEqlF, cmNeq, cmNeqF, decide_eq_true_eq, Bool.not_eq_true', Bool.not_eq_false', he]
      repeat' (first
      | exact Nat.le_refl _
      | exact shape_ok fun i _ => rfl
      | assumption
      | trivial
      | (intro hx; first | (exfalso; omega) | skip)
      | apply And.intro
      | omega)
  by_cases hbig : CkS a5 a8 (ToolOk a5 a6 a7 a1 a2 a3 a4) a9 a10 a11 a12 0 ∧ PS a9 a8 > 300
  · obtain ⟨hC, hbig⟩ := hbig
    have kvE : AF.val (rdkA a0 a1 a2 a3 a4 a5 (fun i => a6 i) (fun i => a7 i) a8 (fun i => a9 i) (fun i => a10 i) (fun i => a11 i) (fun i => a12 i)) = 0 := ks.same hC
    obtain ⟨af, av⟩ := rda_val (a0 := a8) (a1 := a9) (a2 := a10) (a3 := a11) (a4 := a12) hC.job.few hC.job.pc
    have avE : AF.val (rdaA a8 (fun i => a9 i) (fun i => a10 i) (fun i => a11 i) (fun i => a12 i)) = _ := av
    unfold dljD0
    simp only [DD.sat, Nat.zero_add, cmLss, cmLssF, cmLeq, cmLeqF, cmGtr, cmGtrF, cmGeq, cmGeqF, cmEql, cmEqlF, cmNeq, cmNeqF, decide_eq_true_eq, Bool.not_eq_true', Bool.not_eq_false', kvE, avE]
    repeat' (first
      | exact Nat.le_refl _
      | exact shape_ok fun i _ => rfl
      | assumption
      | trivial
      | (intro hx; first | (exfalso; omega) | skip)
      | apply And.intro
      | omega)
  have h13 : a13 ≤ 10000 := by omega
  have h16 : a16 ≤ 10000 := by omega
  obtain ⟨jf, jv⟩ := dju_val (a0 := a0) (a1 := a1) (a2 := a2) (a3 := a3) (a4 := a4) (a5 := a5) (a6 := a6) (a7 := a7) (a8 := a8) (a9 := a9) (a10 := a10) (a11 := a11) (a12 := a12) (a13 := a13) (a14 := a14) (a15 := a15) hn' hm' h13
  obtain ⟨pf, pv⟩ := dpr_val (a0 := a0) (a1 := a1) (a2 := a2) (a3 := a3) (a4 := a4) (a5 := a5) (a6 := a6) (a7 := a7) (a8 := a8) (a9 := a9) (a10 := a10) (a11 := a11) (a12 := a12) (a13 := a16) (a14 := a17) hn' hm' h16
  have hI : JI a0 a1 a2 a3 a4 a5 a6 a7 a8 a9 a10 a11 a12 a13 a14 a15 a16 a17 (AF.val (djuA a0 a1 a2 a3 a4 a5 a6 a7 a8 a9 a10 a11 a12 a13 a14 a15)).1 (AF.val (djuA a0 a1 a2 a3 a4 a5 a6 a7 a8 a9 a10 a11 a12 a13 a14 a15)).2 (AF.val (dprA a0 a1 a2 a3 a4 a5 a6 a7 a8 a9 a10 a11 a12 a16 a17)).1 (AF.val (dprA a0 a1 a2 a3 a4 a5 a6 a7 a8 a9 a10 a11 a12 a16 a17)).2 := ⟨by omega, by omega, by omega, by omega, jv, pv⟩
  have hI' : DljI a0 a1 a2 a3 a4 a5 a6 a7 a8 a9 a10 a11 a12 a13 a14 a15 a16 a17 (.n0 (AF.val (djuA a0 a1 a2 a3 a4 a5 a6 a7 a8 a9 a10 a11 a12 a13 a14 a15)).1 (AF.val (djuA a0 a1 a2 a3 a4 a5 a6 a7 a8 a9 a10 a11 a12 a13 a14 a15)).2 (AF.val (dprA a0 a1 a2 a3 a4 a5 a6 a7 a8 a9 a10 a11 a12 a16 a17)).1 (AF.val (dprA a0 a1 a2 a3 a4 a5 a6 a7 a8 a9 a10 a11 a12 a16 a17)).2 0) := ⟨hI, Int.le_refl _, by omega⟩
  clear hI jv pv
  by_cases hC : CkS a5 a8 (ToolOk a5 a6 a7 a1 a2 a3 a4) a9 a10 a11 a12 0
  · have kvE : AF.val (rdkA a0 a1 a2 a3 a4 a5 (fun i => a6 i) (fun i => a7 i) a8 (fun i => a9 i) (fun i => a10 i) (fun i => a11 i) (fun i => a12 i)) = 0 := ks.same hC
    obtain ⟨af, av⟩ := rda_val (a0 := a8) (a1 := a9) (a2 := a10) (a3 := a11) (a4 := a12) hC.job.few hC.job.pc
    have avE : AF.val (rdaA a8 (fun i => a9 i) (fun i => a10 i) (fun i => a11 i) (fun i => a12 i)) = _ := av
    have h3 : PS a9 a8 ≤ 300 := Int.not_lt.1 fun hx => hbig ⟨hC, hx⟩
    unfold dljD0
    simp only [DD.sat, Nat.zero_add, cmLss, cmLssF, cmLeq, cmLeqF, cmGtr, cmGtrF, cmGeq, cmGeqF, cmEql, cmEqlF, cmNeq, cmNeqF, decide_eq_true_eq, Bool.not_eq_true', Bool.not_eq_false', kvE, avE]
    repeat' (first
      | exact Nat.le_refl _
      | exact shape_ok fun i _ => rfl
      | assumption
      | trivial
      | (intro hx; first | (exfalso; omega) | skip)
      | apply And.intro
      | omega)
  · obtain ⟨e, he⟩ : ∃ e, AF.val (rdkA a0 a1 a2 a3 a4 a5 (fun i => a6 i) (fun i => a7 i) a8 (fun i => a9 i) (fun i => a10 i) (fun i => a11 i) (fun i => a12 i)) = e := ⟨_, rfl⟩
    have hne : e ≠ 0 := fun hx => hC (by rw [hx] at he; have he' : AF.val (rdkA a0 a1 a2 a3 a4 a5 a6 a7 a8 a9 a10 a11 a12) = 0 := he; rw [he'] at ks; exact ks)
    unfold dljD0
    simp only [DD.sat, Nat.zero_add, cmLss, cmLssF, cmLeq, cmLeqF, cmGtr, cmGtrF, cmGeq, cmGeqF, cmEql, cmEqlF, cmNeq, cmNeqF, decide_eq_true_eq, Bool.not_eq_true', Bool.not_eq_false', he]
    repeat' (first
      | exact Nat.le_refl _
      | exact shape_ok fun i _ => rfl
      | assumption
      | trivial
      | (intro hx; first | (exfalso; omega) | skip)
      | apply And.intro
      | omega)
theorem dlj_end (a0 : Bool) (a1 a2 a3 a4 : Int) (a5 : Nat) (a6 a7 : Nat → Int) (a8 : Nat) (a9 a10 a11 a12 : Nat → Int) (a13 : Nat) (a14 a15 : Nat → Int) (a16 : Nat) (a17 : Nat → Int) (p0 p1 p2 p3 p4 : Int) (hI : JI a0 a1 a2 a3 a4 a5 a6 a7 a8 a9 a10 a11 a12 a13 a14 a15 a16 a17 p0 p1 p2 p3) (h4 : a16 ≤ p4) : DD.sat (fun b => DljI a0 a1 a2 a3 a4 a5 a6 a7 a8 a9 a10 a11 a12 a13 a14 a15 a16 a17 b ∧ False) (fun v => v = true) (dljD a0 a1 a2 a3 a4 a5 a6 a7 a8 a9 a10 a11 a12 a13 a14 a15 a16 a17 (.n1 p0 p1 p2 p3 p4)) := by
  obtain ⟨s5, s8, s13, s16, ju, pr⟩ := hI
  have hn' : a5 ≤ 10000 := by omega
  have hm' : a8 ≤ 10000 := by omega
  have h13 : a13 ≤ 10000 := by omega
  have h16 : a16 ≤ 10000 := by omega
  obtain ⟨kf, ks⟩ := rdk_val (a0 := a0) (a1 := a1) (a2 := a2) (a3 := a3) (a4 := a4) (a5 := a5) (a6 := a6) (a7 := a7) (a8 := a8) (a9 := a9) (a10 := a10) (a11 := a11) (a12 := a12) hn' hm'
  obtain ⟨e, hC, jv⟩ := ju
  obtain ⟨e', hC', pv⟩ := pr
  obtain rfl := hC.same hC'
  have kvE : AF.val (rdkA a0 a1 a2 a3 a4 a5 (fun i => a6 i) (fun i => a7 i) a8 (fun i => a9 i) (fun i => a10 i) (fun i => a11 i) (fun i => a12 i)) = e := ks.same hC
  clear ks hC'
  unfold dljD
  rcases jv with ⟨he, jv⟩ | ⟨he, jv⟩
  · rcases pv with ⟨_, pv⟩ | ⟨he', _⟩
    rotate_left
    · exact absurd he' he
    obtain ⟨rfl, rfl⟩ := Prod.mk.inj jv
    obtain ⟨rfl, rfl⟩ := Prod.mk.inj pv
    simp only [DD.sat, Nat.zero_add, cmLss, cmLssF, cmLeq, cmLeqF, cmGtr, cmGtrF, cmGeq, cmGeqF, cmEql, cmEqlF, cmNeq, cmNeqF, decide_eq_true_eq, Bool.not_eq_true', Bool.not_eq_false', kvE]
    repeat' (first
      | exact Nat.le_refl _
      | exact shape_ok fun i _ => rfl
      | assumption
      | trivial
      | (intro hx; first | (exfalso; omega) | skip)
      | apply And.intro
      | omega)
  · subst he
    replace pv := (pv.resolve_left (fun q => q.1 rfl)).2
    have job := hC.job
    have few := job.few
    obtain ⟨sf, sv⟩ := rds_val (a2 := a10) (a3 := a11) (a4 := a12) (a6 := a14) (a7 := a15) few job.pc h13
    have svE : ∀ x, AF.val (rdsA a8 a9 a10 a11 a12 a13 a14 a15) = x → AF.val (rdsA a8 (fun i => a9 i) (fun i => a10 i) (fun i => a11 i) (fun i => a12 i) a13 (fun i => a14 i) (fun i => a15 i)) = x := fun x h => h
    obtain ⟨cf, cv⟩ := rdc_val (a2 := a10) (a3 := a11) (a4 := a12) (a6 := a17) few job.pc h16
    have cvE : ∀ x, AF.val (rdcA a8 a9 a10 a11 a12 a16 a17) = x → AF.val (rdcA a8 (fun i => a9 i) (fun i => a10 i) (fun i => a11 i) (fun i => a12 i) a16 (fun i => a17 i)) = x := fun x h => h
    have cnot : ¬ OrdS a16 a17 (PS a9 a8) → AF.val (rdcA a8 a9 a10 a11 a12 a16 a17) = false := fun h => by
      cases hx : AF.val (rdcA a8 a9 a10 a11 a12 a16 a17) with
      | false => rfl
      | true => exact absurd (cv.1 hx) h
    have J : (a13 > 1000 ∧ p0 = 0 ∧ p1 = 5 ∧ AF.val (rdsA a8 a9 a10 a11 a12 a13 a14 a15) = 5) ∨ (p0 = 0 ∧ p1 = 2 ∧ AF.val (rdsA a8 a9 a10 a11 a12 a13 a14 a15) = 2) ∨ (p1 = 0 ∧ AF.val (rdsA a8 a9 a10 a11 a12 a13 a14 a15) = 0 ∧ AF.fin (rdjA a0 a1 a2 a3 a4 a5 a6 a7 a8 a9 a10 a11 a12 a13 a14 a15) = true ∧ AF.val (rdjA a0 a1 a2 a3 a4 a5 a6 a7 a8 a9 a10 a11 a12 a13 a14 a15) = p0) := by
      rcases jv with ⟨h1, jv⟩ | ⟨h1, ⟨h2, jv⟩ | ⟨h2, r, h3, jv⟩⟩ <;> obtain ⟨rfl, rfl⟩ := Prod.mk.inj jv
      · refine .inl ⟨h1, rfl, rfl, ?_⟩
        rcases sv with ⟨_, q⟩ | ⟨q, _⟩
        · exact q
        · omega
      · refine .inr (.inl ⟨rfl, rfl, ?_⟩)
        rcases sv with ⟨q, _⟩ | ⟨_, ⟨q, _⟩ | ⟨_, q⟩⟩
        · omega
        · exact absurd q h2
        · exact q
      · obtain ⟨qf, qv⟩ := rdj_val job h13 h2
        refine .inr (.inr ⟨rfl, ?_, qf, qv.same h3⟩)
        rcases sv with ⟨q, _⟩ | ⟨_, ⟨_, q⟩ | ⟨q, _⟩⟩
        · omega
        · exact q
        · exact absurd h2 q
    have Q : (a16 > 1000 ∧ p2 = 0 ∧ p3 = 5) ∨ (a16 ≤ 1000 ∧ p2 = 0 ∧ p3 = 2 ∧ AF.val (rdcA a8 a9 a10 a11 a12 a16 a17) = false) ∨ (a16 ≤ 1000 ∧ p3 = 0 ∧ AF.val (rdcA a8 a9 a10 a11 a12 a16 a17) = true ∧ AF.fin (rdqA a0 a1 a2 a3 a4 a5 a6 a7 a8 a9 a10 a11 a12 a16 a17) = true ∧ AF.val (rdqA a0 a1 a2 a3 a4 a5 a6 a7 a8 a9 a10 a11 a12 a16 a17) = p2) := by
      rcases pv with ⟨h1, pv⟩ | ⟨h1, ⟨h2, pv⟩ | ⟨h2, r, h3, pv⟩⟩ <;> obtain ⟨rfl, rfl⟩ := Prod.mk.inj pv
      · exact .inl ⟨h1, rfl, rfl⟩
      · exact .inr (.inl ⟨h1, rfl, rfl, cnot h2⟩)
      · obtain ⟨qf, qv⟩ := rdq_val (a0 := a0) job h16 h2
        exact .inr (.inr ⟨h1, rfl, cv.2 h2, qf, qv.same h3⟩)
    clear jv pv sv cv cnot
    rcases J with ⟨j0, rfl, rfl, j3⟩ | ⟨rfl, rfl, j3⟩ | ⟨rfl, j3, jf, jv⟩ <;> rcases Q with ⟨q0, rfl, rfl⟩ | ⟨q0, rfl, rfl, q3⟩ | ⟨q0, rfl, q3, qf, qv⟩
    all_goals have j3E := svE _ j3
    all_goals try have q3E := cvE _ q3
    all_goals try have jvE : AF.val (rdjA a0 a1 a2 a3 a4 a5 (fun i => a6 i) (fun i => a7 i) a8 (fun i => a9 i) (fun i => a10 i) (fun i => a11 i) (fun i => a12 i) a13 (fun i => a14 i) (fun i => a15 i)) = _ := jv
    all_goals try have qvE : AF.val (rdqA a0 a1 a2 a3 a4 a5 (fun i => a6 i) (fun i => a7 i) a8 (fun i => a9 i) (fun i => a10 i) (fun i => a11 i) (fun i => a12 i) a16 (fun i => a17 i)) = _ := qv
    · simp only [DD.sat, Nat.zero_add, cmLss, cmLssF, cmLeq, cmLeqF, cmGtr, cmGtrF, cmGeq, cmGeqF, cmEql, cmEqlF, cmNeq, cmNeqF, decide_eq_true_eq, Bool.not_eq_true', Bool.not_eq_false', kvE, j3E]
      repeat' (first
      | exact Nat.le_refl _
      | exact shape_ok fun i _ => rfl
      | assumption
      | trivial
      | (intro hx; first | (exfalso; omega) | skip)
      | apply And.intro
      | omega)
    · simp only [DD.sat, Nat.zero_add, cmLss, cmLssF, cmLeq, cmLeqF, cmGtr, cmGtrF, cmGeq, cmGeqF, cmEql, cmEqlF, cmNeq, cmNeqF, decide_eq_true_eq, Bool.not_eq_true', Bool.not_eq_false', kvE, j3E, q3E]
      repeat' (first
      | exact Nat.le_refl _
      | exact shape_ok fun i _ => rfl
      | assumption
      | trivial
      | (intro hx; first | (exfalso; omega) | skip)
      | apply And.intro
      | omega)
    · simp only [DD.sat, Nat.zero_add, cmLss, cmLssF, cmLeq, cmLeqF, cmGtr, cmGtrF, cmGeq, cmGeqF, cmEql, cmEqlF, cmNeq, cmNeqF, decide_eq_true_eq, Bool.not_eq_true', Bool.not_eq_false', kvE, j3E, q3E, qvE]
      repeat' (first
      | exact Nat.le_refl _
      | exact shape_ok fun i _ => rfl
      | assumption
      | trivial
      | (intro hx; first | (exfalso; omega) | skip)
      | apply And.intro
      | omega)
    · simp only [DD.sat, Nat.zero_add, cmLss, cmLssF, cmLeq, cmLeqF, cmGtr, cmGtrF, cmGeq, cmGeqF, cmEql, cmEqlF, cmNeq, cmNeqF, decide_eq_true_eq, Bool.not_eq_true', Bool.not_eq_false', kvE, j3E]
      repeat' (first
      | exact Nat.le_refl _
      | exact shape_ok fun i _ => rfl
      | assumption
      | trivial
      | (intro hx; first | (exfalso; omega) | skip)
      | apply And.intro
      | omega)
    · simp only [DD.sat, Nat.zero_add, cmLss, cmLssF, cmLeq, cmLeqF, cmGtr, cmGtrF, cmGeq, cmGeqF, cmEql, cmEqlF, cmNeq, cmNeqF, decide_eq_true_eq, Bool.not_eq_true', Bool.not_eq_false', kvE, j3E, q3E]
      repeat' (first
      | exact Nat.le_refl _
      | exact shape_ok fun i _ => rfl
      | assumption
      | trivial
      | (intro hx; first | (exfalso; omega) | skip)
      | apply And.intro
      | omega)
    · simp only [DD.sat, Nat.zero_add, cmLss, cmLssF, cmLeq, cmLeqF, cmGtr, cmGtrF, cmGeq, cmGeqF, cmEql, cmEqlF, cmNeq, cmNeqF, decide_eq_true_eq, Bool.not_eq_true', Bool.not_eq_false', kvE, j3E, q3E, qvE]
      repeat' (first
      | exact Nat.le_refl _
      | exact shape_ok fun i _ => rfl
      | assumption
      | trivial
      | (intro hx; first | (exfalso; omega) | skip)
      | apply And.intro
      | omega)
    · simp only [DD.sat, Nat.zero_add, cmLss, cmLssF, cmLeq, cmLeqF, cmGtr, cmGtrF, cmGeq, cmGeqF, cmEql, cmEqlF, cmNeq, cmNeqF, decide_eq_true_eq, Bool.not_eq_true', Bool.not_eq_false', kvE, j3E, jvE]
      repeat' (first
      | exact Nat.le_refl _
      | exact shape_ok fun i _ => rfl
      | assumption
      | trivial
      | (intro hx; first | (exfalso; omega) | skip)
      | apply And.intro
      | omega)
    · simp only [DD.sat, Nat.zero_add, cmLss, cmLssF, cmLeq, cmLeqF, cmGtr, cmGtrF, cmGeq, cmGeqF, cmEql, cmEqlF, cmNeq, cmNeqF, decide_eq_true_eq, Bool.not_eq_true', Bool.not_eq_false', kvE, j3E, q3E, jvE]
      repeat' (first
      | exact Nat.le_refl _
      | exact shape_ok fun i _ => rfl
      | assumption
      | trivial
      | (intro hx; first | (exfalso; omega) | skip)
      | apply And.intro
      | omega)
    · simp only [DD.sat, Nat.zero_add, cmLss, cmLssF, cmLeq, cmLeqF, cmGtr, cmGtrF, cmGeq, cmGeqF, cmEql, cmEqlF, cmNeq, cmNeqF, decide_eq_true_eq, Bool.not_eq_true', Bool.not_eq_false', kvE, j3E, q3E, qvE, jvE]
      repeat' (first
      | exact Nat.le_refl _
      | exact shape_ok fun i _ => rfl
      | assumption
      | trivial
      | (intro hx; first | (exfalso; omega) | skip)
      | apply And.intro
      | omega)
theorem dlj_run (a0 : Bool) (a1 a2 a3 a4 : Int) (a5 : Nat) (a6 a7 : Nat → Int) (a8 : Nat) (a9 a10 a11 a12 : Nat → Int) (a13 : Nat) (a14 a15 : Nat → Int) (a16 : Nat) (a17 : Nat → Int) (_ : -9223372036854775808 ≤ a1 ∧ a1 ≤ 9223372036854775807) (_ : -9223372036854775808 ≤ a2 ∧ a2 ≤ 9223372036854775807) (_ : -9223372036854775808 ≤ a3 ∧ a3 ≤ 9223372036854775807) (_ : -9223372036854775808 ≤ a4 ∧ a4 ≤ 9223372036854775807) (hn : a5 ≤ 9223372036854775807) (_ : ∀ i, -9223372036854775808 ≤ a6 i ∧ a6 i ≤ 9223372036854775807) (_ : ∀ i, -9223372036854775808 ≤ a7 i ∧ a7 i ≤ 9223372036854775807) (hm : a8 ≤ 9223372036854775807) (_ : ∀ i, -9223372036854775808 ≤ a9 i ∧ a9 i ≤ 9223372036854775807) (_ : ∀ i, -9223372036854775808 ≤ a10 i ∧ a10 i ≤ 9223372036854775807) (_ : ∀ i, -9223372036854775808 ≤ a11 i ∧ a11 i ≤ 9223372036854775807) (_ : ∀ i, -9223372036854775808 ≤ a12 i ∧ a12 i ≤ 9223372036854775807) (_ : a13 ≤ 9223372036854775807) (_ : ∀ i, -9223372036854775808 ≤ a14 i ∧ a14 i ≤ 9223372036854775807) (_ : ∀ i, -9223372036854775808 ≤ a15 i ∧ a15 i ≤ 9223372036854775807) (_ : a16 ≤ 9223372036854775807) (_ : ∀ i, -9223372036854775808 ≤ a17 i ∧ a17 i ≤ 9223372036854775807) :
    ∃ n v, AF.run (dljA a0 a1 a2 a3 a4 a5 a6 a7 a8 a9 a10 a11 a12 a13 a14 a15 a16 a17) n = some v ∧ v = true := by
  refine AF.run_sat (E := fun v => v = true) (Inv := DljI a0 a1 a2 a3 a4 a5 a6 a7 a8 a9 a10 a11 a12 a13 a14 a15 a16 a17) (fun b => match b with | .n0 p0 p1 p2 p3 p4 => (a13 - p4).toNat + a16 + 2 | .n1 p0 p1 p2 p3 p4 => (a16 - p4).toNat) (fun b => rfl) (fun b h => ?_) (dlj_sat a0 a1 a2 a3 a4 a5 a6 a7 a8 a9 a10 a11 a12 a13 a14 a15 a16 a17)
  cases b with
  | n0 p0 p1 p2 p3 p4 =>
    obtain ⟨hI, g0, g1⟩ := h
    have s := hI.s13
    show DD.sat _ _ (dljD a0 a1 a2 a3 a4 a5 a6 a7 a8 a9 a10 a11 a12 a13 a14 a15 a16 a17 (.n0 p0 p1 p2 p3 p4))
    unfold dljD
    by_cases hq : p4 < a13
    · have e1 : Ar.run .add .i64 p4 1 = p4 + 1 := arAdd (by omega)
      have nx : DljI a0 a1 a2 a3 a4 a5 a6 a7 a8 a9 a10 a11 a12 a13 a14 a15 a16 a17 (.n0 p0 p1 p2 p3 (p4 + 1)) := ⟨hI, by omega, by omega⟩
      simp only [DD.sat, Nat.zero_add, cmLss, cmLssF, cmLeq, cmLeqF, cmGtr, cmGtrF, cmGeq, cmGeqF, cmEql, cmEqlF, cmNeq, cmNeqF, decide_eq_true_eq, Bool.not_eq_true', Bool.not_eq_false', e1]
      repeat' (first
      | exact Nat.le_refl _
      | exact shape_ok fun i _ => rfl
      | assumption
      | trivial
      | (intro hx; first | (exfalso; omega) | skip)
      | apply And.intro
      | omega)
    · have nx : DljI a0 a1 a2 a3 a4 a5 a6 a7 a8 a9 a10 a11 a12 a13 a14 a15 a16 a17 (.n1 p0 p1 p2 p3 0) := ⟨hI, by omega, by omega⟩
      simp only [DD.sat, Nat.zero_add, cmLss, cmLssF, cmLeq, cmLeqF, cmGtr, cmGtrF, cmGeq, cmGeqF, cmEql, cmEqlF, cmNeq, cmNeqF, decide_eq_true_eq, Bool.not_eq_true', Bool.not_eq_false']
      repeat' (first
      | exact Nat.le_refl _
      | exact shape_ok fun i _ => rfl
      | assumption
      | trivial
      | (intro hx; first | (exfalso; omega) | skip)
      | apply And.intro
      | omega)
  | n1 p0 p1 p2 p3 p4 =>
    obtain ⟨hI, g0, g1⟩ := h
    have s := hI.s16
    by_cases hq : p4 < a16
    · show DD.sat _ _ (dljD a0 a1 a2 a3 a4 a5 a6 a7 a8 a9 a10 a11 a12 a13 a14 a15 a16 a17 (.n1 p0 p1 p2 p3 p4))
      unfold dljD
      have e1 : Ar.run .add .i64 p4 1 = p4 + 1 := arAdd (by omega)
      have nx : DljI a0 a1 a2 a3 a4 a5 a6 a7 a8 a9 a10 a11 a12 a13 a14 a15 a16 a17 (.n1 p0 p1 p2 p3 (p4 + 1)) := ⟨hI, by omega, by omega⟩
      simp only [DD.sat, Nat.zero_add, cmLss, cmLssF, cmLeq, cmLeqF, cmGtr, cmGtrF, cmGeq, cmGeqF, cmEql, cmEqlF, cmNeq, cmNeqF, decide_eq_true_eq, Bool.not_eq_true', Bool.not_eq_false', e1]
      repeat' (first
      | exact Nat.le_refl _
      | exact shape_ok fun i _ => rfl
      | assumption
      | trivial
      | (intro hx; first | (exfalso; omega) | skip)
      | apply And.intro
      | omega)
    · exact DD.sat_mono (fun b hb => hb.2.elim) (fun v hv => hv) _ (dlj_end a0 a1 a2 a3 a4 a5 a6 a7 a8 a9 a10 a11 a12 a13 a14 a15 a16 a17 p0 p1 p2 p3 p4 hI (by omega))
end Go.Proofs.Ythagjhadjpangaa.Cx

/- ARGUMENTS THAT ARE SLICES: opened as lists; the memory in which they lie as blocks that are read alone; a law's contract as its statement's walk. -/
namespace Go.Proofs.Ythagjhadjpangaa.Cx
set_option linter.unusedSimpArgs false
set_option linter.unusedVariables false
open Go Go.RowKit Go.ChangeShapes Go.WideShapes Go.Deep Go.Proofs.Ythagjhadjpangaa
/-! ## Such slices as blocks -/
section
variable {P : Program} {ρ : Env}
/-- Where a slice's rows lie. -/
noncomputable def locOf (w : World) (v : Value) (z : Nat) : Option Loc :=
  match v with
  | .slice (some a) (_ + 1) _ => match w.heap[a.block]? with
    | some (.cells c _ _) => some ⟨a.block, a.off, c.size, z⟩
    | _ => none
  | _ => none
theorem rows_rel {α : Type} {en : α → List Value} {ec : α → List CV} {d : α} (he : ∀ σ x, VRl ρ σ (ec x) (en x)) (σ : Mp) : ∀ (xs : List α) (n : Nat), n ≤ xs.length → VRl ρ σ (flatR (fun j => ec (xs.getD j d)) n) ((xs.take n).flatMap en)
  | xs, 0, _ => by simpa [flatR] using VRl.nil
  | xs, n + 1, h => by
    have ih := rows_rel (d := d) he σ xs n (by omega)
    rw [flatR, List.take_add_one, List.flatMap_append]
    refine ih.append ?_
    have hn : n < xs.length := by omega
    rw [List.getElem?_eq_getElem hn, List.getD_eq_getElem?_getD, List.getElem?_eq_getElem hn]
    simpa using he σ xs[n]
theorem SlR.rel {α : Type} {en : α → List Value} {ec : α → List CV} {d : α} {z : Nat} {w : World} {v : Value} {xs : List α} {σ : Mp} {b : Nat} (h : SlR en z w v xs) (hz : ∀ x, (en x).length = z) (he : ∀ σ x, VRl ρ σ (ec x) (en x))
    (hk : ∀ j, (ec (xs.getD j d)).length = z ∧ (ec (xs.getD j d)).all CV.flat = true) (hσ : σ b = locOf w v z) :
    VR ρ σ (.sla b z 0 xs.length) v ∧ ArgAt ρ w ⟨.arg xs.length z (fun j => ec (xs.getD j d)) hk, z, true, none⟩ (σ b) := by
  obtain ⟨a, cap, rfl, hcap, _, hx⟩ := h
  have hcl : Blk.cells ⟨.arg xs.length z (fun j => ec (xs.getD j d)) hk, z, true, none⟩ = flatR (fun j => ec (xs.getD j d)) xs.length := rfl
  have hlen := flatR_length (fun j => (hk j).1) xs.length
  rcases hx with rfl | ⟨bl, off, c, t, p, rfl, hh, hsz, hrow⟩
  · refine ⟨.sla0 _ _, rfl, rfl, rfl, fun l hl => ?_⟩
    rw [hσ] at hl
    simp [locOf] at hl
  · cases xs with
    | nil =>
      refine ⟨.sla0 _ _, rfl, rfl, rfl, fun l hl => ?_⟩
      rw [hσ] at hl
      simp [locOf] at hl
    | cons x xs =>
      have hlo : locOf w (.slice (some ⟨bl, off, none⟩) (x :: xs).length cap) z = some ⟨bl, off, c.size, z⟩ := by
        simp [locOf, hh]
      rw [hlo] at hσ
      refine ⟨?_, rfl, rfl, rfl, fun l hl => ?_⟩
      · have := VR.sla (ρ := ρ) (σ := σ) (b := b) (z := z) (o := 0) (n := (x :: xs).length) (c' := cap) hσ hcap
        simpa using this
      · rw [hσ] at hl
        obtain rfl := Option.some.inj hl
        refine ⟨c, t, p, hh, rfl, rfl, by rw [hcl, hlen]; exact hsz, fun τ => ?_⟩
        rw [hcl, hlen, hrow]
        have := rows_rel (ρ := ρ) (d := d) he τ (x :: xs) (x :: xs).length (Nat.le_refl _)
        rwa [List.take_of_length_le (Nat.le_refl _)] at this
/-- A law's contract, as its statement's walk. -/
theorem Ctr.law {f : Nat} {args : List CV} {h0 h1 : Tr Blk} {base n1 : Nat} {e : BE} {w : World} {σ : Mp} {args' : Array Value} (K : Ctr P ρ f args h0 base [] (.bool e) h1 n1) (he : e.den ρ = true) (ha : VRl ρ σ args args'.toList) (hH : HR ρ σ (curOf h0 base) w) (hN : ∀ b, base ≤ b → σ b = none) :
    Calls P f args' w fun e w' => e = .returned (.bool true) ∧ Below w.heap.size w w' := by
  refine ((K.run 0 σ w args' ha hH hN).calls (fun k d h => by cases h)).mono ?_
  rintro e' w' ⟨v, rfl, σ', h1, h2, h3, h4, h5⟩
  cases h2
  refine ⟨by rw [he], h4.os, h4.tape, h4.output, h4.size, fun k hk => h4.block k hk (fun b hb l hl => ?_)⟩
  rcases hb with hb | hb
  · cases hb
  · rw [hN b hb] at hl; cases hl
end
end Go.Proofs.Ythagjhadjpangaa.Cx

/- ARGUMENTS OF LAWS, OPENED BY THEIR TYPES: integers, bools, structs, arrays, and slices of rows of integers and bools (a table each); the memory in which these lie. -/
namespace Go.Proofs.Ythagjhadjpangaa.Cx
set_option linter.unusedSimpArgs false
set_option linter.unusedVariables false
open Go Go.RowKit Go.ChangeShapes Go.WideShapes Go.Deep Go.Proofs.Ythagjhadjpangaa
/-! ## What the cells of a type are -/
inductive CK where
  | int (k : IntKind)
  | bool
  | tab (ks : List (Option IntKind))
def flatCK : List CK → Option (List (Option IntKind))
  | [] => some []
  | .int k :: l => match flatCK l with | some m => some (some k :: m) | none => none
  | .bool :: l => match flatCK l with | some m => some (none :: m) | none => none
  | .tab _ :: _ => none
def ckFs (P : Program) (f : TypeId → Option (List CK)) : Nat → List Field → Option (List CK)
  | _, [] => some []
  | off, fd :: l => match f fd.type with
    | some ks => bif Nat.beq fd.offset off && Nat.beq (P.cellsOf fd.type) ks.length then (match ckFs P f (off + ks.length) l with | some m => some (ks ++ m) | none => none) else none
    | none => none
def repL {α : Type} : Nat → List α → List α
  | 0, _ => []
  | n + 1, l => repL n l ++ l
def ckOf (P : Program) : Nat → TypeId → Option (List CK)
  | 0, _ => none
  | d + 1, t => match P.underlying t with
    | some (.int k) => some [.int k]
    | some .bool => some [.bool]
    | some (.struct fs) => match ckFs P (ckOf P d) 0 fs.toList with
      | some ks => bif Nat.beq (P.cellsOf t) ks.length then some ks else none
      | none => none
    | some (.array n e) => match ckOf P d e with
      | some ks => bif Nat.beq (P.cellsOf e) ks.length && Nat.beq (P.cellsOf t) (n * ks.length) then some (repL n ks) else none
      | none => none
    | some (.slice e) => match ckOf P d e with
      | some ks => match flatCK ks with
        | some l => bif Nat.beq (P.cellsOf e) l.length && Nat.blt 0 l.length then some [.tab l] else none
        | none => none
      | none => none
    | _ => none
/-! ## Rows -/
/-- The cells of a row: integers and bools, by their places. -/
structure RowV where
  c : Nat → Int
  g : Nat → Bool
def RowV.zero : RowV := ⟨fun _ => 0, fun _ => false⟩
def enV (r : RowV) : List (Option IntKind) → Nat → List Value
  | [], _ => []
  | some k :: ks, j => .int k (r.c j) :: enV r ks (j + 1)
  | none :: ks, j => .bool (r.g j) :: enV r ks (j + 1)
def okV (ks : List (Option IntKind)) (r : RowV) : Prop := ∀ j k, ks[j]? = some (some k) → (Lit.int k (r.c j)).wf = true
theorem enV_length (r : RowV) : ∀ (ks : List (Option IntKind)) (j : Nat), (enV r ks j).length = ks.length
  | [], _ => rfl
  | some k :: ks, j => congrArg Nat.succ (enV_length r ks (j + 1))
  | none :: ks, j => congrArg Nat.succ (enV_length r ks (j + 1))
/-- The cells of an argument: such, and slices of rows. -/
structure RowW where
  c : Nat → Int
  g : Nat → Bool
  s : Nat → Value
  t : Nat → List RowV
def enW (r : RowW) : List CK → Nat → List Value
  | [], _ => []
  | .int k :: ks, j => .int k (r.c j) :: enW r ks (j + 1)
  | .bool :: ks, j => .bool (r.g j) :: enW r ks (j + 1)
  | .tab _ :: ks, j => r.s j :: enW r ks (j + 1)
/-- A slice of such rows. -/
def SlT (ks : List (Option IntKind)) (w : World) (v : Value) (xs : List RowV) : Prop := SlR (fun r => enV r ks 0) ks.length w v xs ∧ ∀ x ∈ xs, okV ks x
def cellW (w : World) : CK → Value → Prop
  | .int k, v => ∃ z, v = .int k z ∧ (Lit.int k z).wf = true
  | .bool, v => ∃ b, v = .bool b
  | .tab ks, v => ∃ xs, SlT ks w v xs
inductive Mt (w : World) : List CK → List Value → Prop
  | nil : Mt w [] []
  | cons {k : CK} {v : Value} {ks : List CK} {vs : List Value} (h : cellW w k v) (t : Mt w ks vs) : Mt w (k :: ks) (v :: vs)
theorem Mt.append {w : World} {a b : List CK} {x y : List Value} (h : Mt w a x) (h' : Mt w b y) : Mt w (a ++ b) (x ++ y) := by
  induction h with
  | nil => exact h'
  | cons h _ ih => exact .cons h ih
theorem Mt.length {w : World} {a : List CK} {x : List Value} (h : Mt w a x) : x.length = a.length := by
  induction h with
  | nil => rfl
  | cons h _ ih => simp [ih]
/-- What the cells' places hold. -/
noncomputable def rowW (w : World) (ks : List CK) (vs : List Value) : RowW :=
  ⟨fun j => match vs[j]? with | some (.int _ z) => z | _ => 0, fun j => match vs[j]? with | some (.bool b) => b | _ => false, fun j => vs.getD j (.bool false),
   fun j => match ks[j]? with | some (.tab l) => @dite _ (∃ xs, SlT l w (vs.getD j (.bool false)) xs) (Classical.propDecidable _) (fun h => Classical.choose h) (fun _ => []) | _ => []⟩
def okW (w : World) (ks : List CK) (r : RowW) : Prop := (∀ j k, ks[j]? = some (.int k) → (Lit.int k (r.c j)).wf = true) ∧ ∀ j l, ks[j]? = some (.tab l) → SlT l w (r.s j) (r.t j)
theorem Mt.get {w : World} {ks : List CK} {vs : List Value} (h : Mt w ks vs) : ∀ {j : Nat} {k : CK}, ks[j]? = some k → ∃ v, vs[j]? = some v ∧ cellW w k v := by
  induction h with
  | nil => intro j k h; simp at h
  | cons h _ ih =>
    intro j k hj
    cases j with
    | zero => simp at hj; subst hj; exact ⟨_, rfl, h⟩
    | succ j => simpa using ih (by simpa using hj)
theorem Mt.row {w : World} {ks : List CK} {vs : List Value} (h : Mt w ks vs) : vs = enW (rowW w ks vs) ks 0 ∧ okW w ks (rowW w ks vs) := by
  have key : ∀ (n : Nat) (pre post : List CK) (a b : List Value), ks = pre ++ post → vs = a ++ b → a.length = pre.length → b.length = post.length → post.length = n → b = enW (rowW w ks vs) post pre.length := by
    intro n
    induction n with
    | zero =>
      intro pre post a b h1 h2 h3 h4 h5
      cases post with
      | nil => cases b with
        | nil => rfl
        | cons x b => simp at h4
      | cons x l => simp at h5
    | succ n ih =>
      intro pre post a b h1 h2 h3 h4 h5
      cases post with
      | nil => simp at h5
      | cons k post =>
        cases b with
        | nil => simp at h4
        | cons v b =>
          have hk : ks[pre.length]? = some k := by rw [h1]; simp
          have hv : vs[pre.length]? = some v := by rw [h2, ← h3]; simp
          obtain ⟨v', hv', hc⟩ := h.get hk
          rw [hv] at hv'
          obtain rfl := Option.some.inj hv'
          have ih' := ih (pre ++ [k]) post (a ++ [v]) b (by simp [h1]) (by simp [h2]) (by simp [h3]) (by simpa using h4) (by simpa using h5)
          rw [List.length_append, List.length_singleton] at ih'
          have hd : vs.getD pre.length (.bool false) = v := by rw [List.getD_eq_getElem?_getD, hv]; rfl
          cases k with
          | int k =>
            obtain ⟨z, rfl, _⟩ := hc
            rw [enW, ← ih']
            congr 1
            simp [rowW, hv]
          | bool =>
            obtain ⟨z, rfl⟩ := hc
            rw [enW, ← ih']
            congr 1
            simp [rowW, hv]
          | tab l =>
            rw [enW, ← ih']
            congr 1
            exact hd.symm
  refine ⟨key ks.length [] ks [] vs rfl rfl rfl h.length rfl, fun j k hk => ?_, fun j l hl => ?_⟩
  · obtain ⟨v, hv, z, rfl, hz⟩ := h.get hk
    simpa [rowW, hv] using hz
  · obtain ⟨v, hv, xs, hx⟩ := h.get hl
    have hd : vs.getD j (.bool false) = v := by rw [List.getD_eq_getElem?_getD, hv]; rfl
    have hex : ∃ xs, SlT l w (vs.getD j (.bool false)) xs := ⟨xs, by rw [hd]; exact hx⟩
    have e : (rowW w ks vs).t j = Classical.choose hex := by
      simp only [rowW, hl]
      rw [dif_pos hex]
    rw [e]
    exact Classical.choose_spec hex
/-- Cells of a row, as a row. -/
theorem Mt.flat {w : World} {cks : List CK} {vs : List Value} (h : Mt w cks vs) : ∀ {ks : List (Option IntKind)}, flatCK cks = some ks → ∃ r : RowV, vs = enV r ks 0 ∧ okV ks r := by
  have key : ∀ {cks : List CK} {vs : List Value}, Mt w cks vs → ∀ {ks : List (Option IntKind)}, flatCK cks = some ks → ∀ (r : RowV) (j : Nat), ∃ r' : RowV, vs = enV r' ks j ∧ (∀ i k, ks[i]? = some (some k) → (Lit.int k (r'.c (j + i))).wf = true) ∧ ∀ i, i < j → r'.c i = r.c i ∧ r'.g i = r.g i := by
    intro cks vs h
    induction h with
    | nil =>
      intro ks hk r j
      simp only [flatCK] at hk
      cases hk
      exact ⟨r, rfl, fun i k h => by simp at h, fun i _ => ⟨rfl, rfl⟩⟩
    | @cons k v cks vs hc _ ih =>
      intro ks hk r j
      cases k with
      | int k =>
        simp only [flatCK] at hk
        split at hk
        · rename_i m hm
          cases hk
          obtain ⟨z, rfl, hz⟩ := hc
          obtain ⟨r', h1, h2, h3⟩ := ih hm ⟨fun i => if i = j then z else r.c i, r.g⟩ (j + 1)
          have hj := h3 j (by omega)
          simp only [if_true] at hj
          refine ⟨r', by rw [enV, hj.1, ← h1], fun i k' hk' => ?_, fun i hi => ?_⟩
          · cases i with
            | zero => simp at hk'; subst hk'; rw [Nat.add_zero, hj.1]; exact hz
            | succ i => have := h2 i k' (by simpa using hk'); rwa [show j + 1 + i = j + (i + 1) by omega] at this
          · have := h3 i (by omega)
            simp only [if_neg (show i ≠ j by omega)] at this
            exact this
        · cases hk
      | bool =>
        simp only [flatCK] at hk
        split at hk
        · rename_i m hm
          cases hk
          obtain ⟨z, rfl⟩ := hc
          obtain ⟨r', h1, h2, h3⟩ := ih hm ⟨r.c, fun i => if i = j then z else r.g i⟩ (j + 1)
          have hj := h3 j (by omega)
          simp only [if_true] at hj
          refine ⟨r', by rw [enV, hj.2, ← h1], fun i k' hk' => ?_, fun i hi => ?_⟩
          · cases i with
            | zero => simp at hk'
            | succ i => have := h2 i k' (by simpa using hk'); rwa [show j + 1 + i = j + (i + 1) by omega] at this
          · have := h3 i (by omega)
            simp only [if_neg (show i ≠ j by omega)] at this
            exact this
        · cases hk
      | tab l => simp [flatCK] at hk
  intro ks hk
  obtain ⟨r', h1, h2, _⟩ := key h hk RowV.zero 0
  exact ⟨r', h1, fun j k hj => by have := h2 j k hj; rwa [Nat.zero_add] at this⟩
section
variable {H : Type} {enc : TypeId × Value → H} {P : Program} {w : World} {base : Nat} {spare : Nat → Bool} {held : Bool}
theorem seg_add {α : Type} (cs : List α) (o a b : Nat) : (cs.drop o).take (a + b) = (cs.drop o).take a ++ (cs.drop (o + a)).take b := by
  rw [List.take_add, List.drop_drop]
theorem ckFs_ok {f : TypeId → Option (List CK)} {cs : List Value} (hf : ∀ t ks, f t = some ks → ∀ n vs y, DataW.trod enc P w base spare held n t vs = some y → Mt w ks vs) :
    ∀ (l : List Field) (off : Nat) (ks : List CK), ckFs P f off l = some ks → (∀ (i : Nat) (fd : Field), l[i]? = some fd → ∃ n y, DataW.trod enc P w base spare held n fd.type ((cs.drop fd.offset).take (P.cellsOf fd.type)) = some y) → Mt w ks ((cs.drop off).take ks.length)
  | [], off, ks, h, _ => by
    simp only [ckFs] at h
    cases h
    simpa using Mt.nil
  | fd :: l, off, ks, h, ht => by
    simp only [ckFs] at h
    split at h
    · rename_i k1 hk1
      cases hc : (Nat.beq fd.offset off && Nat.beq (P.cellsOf fd.type) k1.length) with
      | false => rw [hc, cond_false] at h; cases h
      | true =>
        rw [hc, cond_true] at h
        simp only [Bool.and_eq_true] at hc
        have e1 := Nat.eq_of_beq_eq_true hc.1
        have e2 := Nat.eq_of_beq_eq_true hc.2
        split at h
        · rename_i m hm
          cases h
          obtain ⟨n, y, hy⟩ := ht 0 fd rfl
          rw [e1, e2] at hy
          have h1 := hf _ _ hk1 _ _ _ hy
          have h2 := ckFs_ok hf l (off + k1.length) m hm fun i fd' hi => ht (i + 1) fd' (by simpa using hi)
          rw [List.length_append, seg_add]
          exact h1.append h2
        · cases h
    · cases h
theorem repL_ok {cs : List Value} {ks : List CK} {z : Nat} (hz : ks.length = z) : ∀ (n : Nat), (∀ i, i < n → Mt w ks ((cs.drop (i * z)).take z)) → Mt w (repL n ks) (cs.take (n * z))
  | 0, _ => by simpa [repL] using Mt.nil
  | n + 1, h => by
    have ih := repL_ok hz n fun i hi => h i (by omega)
    rw [repL, Nat.succ_mul, List.take_add]
    exact ih.append (h n (by omega))
theorem ckOf_ok : ∀ (d : Nat) (t : TypeId) (ks : List CK), ckOf P d t = some ks → ∀ n cs y, DataW.trod enc P w base spare held n t cs = some y → Mt w ks cs
  | 0, _, _, h => by simp [ckOf] at h
  | d + 1, t, ks, h => by
    intro n cs y hy
    unfold ckOf at h
    split at h
    · rename_i k hk
      cases h
      obtain ⟨z, rfl, _, hw⟩ := DataW.trod_int hk hy
      exact .cons ⟨z, rfl, hw⟩ .nil
    · rename_i hk
      cases h
      obtain ⟨b, rfl, _⟩ := DataW.trod_bool hk hy
      exact .cons ⟨b, rfl⟩ .nil
    · rename_i fs hk
      split at h
      · rename_i l hl
        cases hc : Nat.beq (P.cellsOf t) l.length with
        | false => rw [hc, cond_false] at h; cases h
        | true =>
          rw [hc, cond_true] at h
          cases h
          have hlen := Nat.eq_of_beq_eq_true hc
          obtain ⟨xs, m, _, _, hcl, hxl, hg⟩ := DataW.trod_struct hk hy
          have := ckFs_ok (ckOf_ok d) fs.toList 0 _ hl (cs := cs) fun i fd hi => by
            have hi' : fs[i]? = some fd := by simpa using hi
            have hlt : i < xs.length := by rw [hxl]; exact (Array.getElem?_eq_some_iff.1 hi').1
            exact ⟨m, xs[i], by rw [hg i fd hi']; exact List.getElem?_eq_getElem hlt⟩
          rwa [List.drop_zero, List.take_of_length_le (by omega)] at this
      · cases h
    · rename_i m e hk
      split at h
      · rename_i l hl
        cases hc : (Nat.beq (P.cellsOf e) l.length && Nat.beq (P.cellsOf t) (m * l.length)) with
        | false => rw [hc, cond_false] at h; cases h
        | true =>
          rw [hc, cond_true] at h
          cases h
          simp only [Bool.and_eq_true] at hc
          have e1 := Nat.eq_of_beq_eq_true hc.1
          have e2 := Nat.eq_of_beq_eq_true hc.2
          obtain ⟨xs, q, _, _, hcl, hxl, hg⟩ := DataW.trod_array hk hy
          have := repL_ok (w := w) (cs := cs) (ks := l) rfl m fun i hi => by
            have h1 := hg i hi
            rw [e1, List.getElem?_eq_getElem (by omega)] at h1
            exact ckOf_ok d _ _ hl _ _ _ h1
          rwa [List.take_of_length_le (by omega)] at this
      · cases h
    · rename_i e hk
      split at h
      · rename_i ck hck
        split at h
        · rename_i l hl
          cases hc : (Nat.beq (P.cellsOf e) l.length && Nat.blt 0 l.length) with
          | false => rw [hc, cond_false] at h; cases h
          | true =>
            rw [hc, cond_true] at h
            cases h
            simp only [Bool.and_eq_true] at hc
            obtain ⟨v, xs, rfl, h1, h2⟩ := sl_open (en := fun r => enV r l 0) (ok := okV l) (z := l.length) (Nat.lt_of_succ_le (Nat.le_of_ble_eq_true hc.2)) (fun x => enV_length _ _ _) hk (Nat.eq_of_beq_eq_true hc.1)
              (fun n cs y _ hy => (ckOf_ok d _ _ hck _ _ _ hy).flat hl) hy
            exact .cons ⟨xs, h1, h2⟩ .nil
        · cases h
      · cases h
    · cases h
/-- An argument, opened. -/
theorem open_agg {t : TypeId} {r : Reach} {b0 : Nat} {v : Value} {d : DataW H} {p : List MemPlace} {dp : Nat} {ks : List CK} (hk : ckOf P dp t = some ks) (hs : (∃ fs, P.underlying t = some (.struct fs)) ∨ ∃ n e, P.underlying t = some (.array n e))
    (hval : Value.okWide P w r b0 t v) (h : DataW.Trod enc P w base spare held t v d p) : ∃ x : RowW, v = .agg (enW x ks 0).toArray ∧ okW w ks x := by
  obtain ⟨cs, rfl⟩ : ∃ cs, v = .agg cs := by
    rcases hs with ⟨fs, hs⟩ | ⟨n, e, hs⟩
    · obtain ⟨cs, h1, _⟩ := okWide_struct hs hval; exact ⟨cs, h1⟩
    · obtain ⟨cs, h1, _⟩ := okWide_arr hs hval; exact ⟨cs, h1⟩
  obtain ⟨fuel, hf⟩ := h
  have hm := ckOf_ok dp t ks hk _ _ _ hf
  obtain ⟨h1, h2⟩ := hm.row
  refine ⟨_, ?_, h2⟩
  rw [← h1]
  simp [Value.cells]
theorem open_slT {t : TypeId} {r : Reach} {b0 : Nat} {v : Value} {d : DataW H} {p : List MemPlace} {dp : Nat} {l : List (Option IntKind)} {e : TypeId} (hk : ckOf P dp t = some [.tab l]) (hs : P.underlying t = some (.slice e))
    (hval : Value.okWide P w r b0 t v) (h : DataW.Trod enc P w base spare held t v d p) : ∃ xs, SlT l w v xs := by
  obtain ⟨a, len, cap, rfl⟩ := okWide_slice hs hval
  obtain ⟨fuel, hf⟩ := h
  have hm := ckOf_ok dp t _ hk _ _ _ hf
  have e : (Value.slice a len cap).cells.toList = [Value.slice a len cap] := rfl
  rw [e] at hm
  cases hm with
  | cons h _ => exact h
end
/-! ## Slices as tables -/
def tabV (xs : List RowV) : Tab := ⟨xs.length, fun j i => (xs.getD i RowV.zero).c j, fun j i => (xs.getD i RowV.zero).g j⟩
theorem rowCs_sl {c c' : Nat → Nat → Int} {g g' : Nat → Nat → Bool} {i i' : Nat} (hc : ∀ j, c j i = c' j i') (hg : ∀ j, g j i = g' j i') : ∀ (ks : List (Option IntKind)) (j : Nat), rowCs c g i ks j = rowCs c' g' i' ks j
  | [], _ => rfl
  | some k :: ks, j => by rw [rowCs, rowCs, hc j, rowCs_sl hc hg ks]
  | none :: ks, j => by rw [rowCs, rowCs, hg j, rowCs_sl hc hg ks]
theorem enV_rel {ρ : Env} {σ : Mp} (r : RowV) : ∀ (ks : List (Option IntKind)) (j : Nat), VRl ρ σ (rowCs (fun j _ => r.c j) (fun j _ => r.g j) 0 ks j) (enV r ks j)
  | [], _ => .nil
  | some k :: ks, j => .cons (.int k (.x (r.c j))) (enV_rel r ks (j + 1))
  | none :: ks, j => .cons (.bool (.x (r.g j))) (enV_rel r ks (j + 1))
theorem ArgAt.rows_eq {ρ : Env} {w : World} {n z : Nat} {f g : Nat → List CV} {hf : ∀ j, (f j).length = z ∧ (f j).all CV.flat = true} {hg : ∀ j, (g j).length = z ∧ (g j).all CV.flat = true} {lo : Option Loc} (e : f = g) (h : ArgAt ρ w ⟨.arg n z f hf, z, true, none⟩ lo) : ArgAt ρ w ⟨.arg n z g hg, z, true, none⟩ lo := by
  subst e; exact h
structure SlV where
  v : Value
  ks : List (Option IntKind)
  xs : List RowV
noncomputable def sigV (w : World) (S : List SlV) : Mp := fun b => match S[b]? with | some s => locOf w s.v s.ks.length | none => none
def heapV : Nat → List SlV → List (Nat × Blk)
  | _, [] => []
  | i, s :: l => (i, tabB s.ks (tabV s.xs)) :: heapV (i + 1) l
theorem sigV_none {w : World} {S : List SlV} {b : Nat} (h : S.length ≤ b) : sigV w S b = none := by
  unfold sigV; rw [List.getElem?_eq_none h]
theorem SlT.both {ρ : Env} {w : World} {S : List SlV} {b : Nat} {s : SlV} (hb : S[b]? = some s) (h : SlT s.ks w s.v s.xs) : VR ρ (sigV w S) (.sla b s.ks.length 0 s.xs.length) s.v ∧ ArgAt ρ w (tabB s.ks (tabV s.xs)) (sigV w S b) := by
  obtain ⟨h1, h2⟩ := SlR.rel (ρ := ρ) (σ := sigV w S) (b := b) (ec := fun r => rowCs (fun j _ => r.c j) (fun j _ => r.g j) 0 s.ks 0) (d := RowV.zero) h.1 (fun x => enV_length _ _ _) (fun σ x => enV_rel x s.ks 0) (fun j => rowCs_ok _ _ _ _ _) (by unfold sigV; rw [hb])
  have e : (fun j => rowCs (fun j' _ => (s.xs.getD j RowV.zero).c j') (fun j' _ => (s.xs.getD j RowV.zero).g j') 0 s.ks 0) = fun i => rowCs (tabV s.xs).c (tabV s.xs).g i s.ks 0 := funext fun i => rowCs_sl (c := fun j' _ => (s.xs.getD i RowV.zero).c j') (g := fun j' _ => (s.xs.getD i RowV.zero).g j') (fun _ => rfl) (fun _ => rfl) _ _
  have h3 := ArgAt.rows_eq (hg := fun i => rowCs_ok (tabV s.xs).c (tabV s.xs).g i s.ks 0) e h2
  exact ⟨h1, h3⟩
theorem SlT.rel {ρ : Env} {w : World} {S : List SlV} (b : Nat) {s : SlV} (hb : S[b]? = some s) (h : SlT s.ks w s.v s.xs) : VR ρ (sigV w S) (.sla b s.ks.length 0 s.xs.length) s.v := (h.both hb).1
theorem SlT.len {ks : List (Option IntKind)} {w : World} {v : Value} {xs : List RowV} (h : SlT ks w v xs) : xs.length ≤ 9223372036854775807 := by
  obtain ⟨⟨a, cap, _, _, hl, _⟩, _⟩ := h
  exact hl
theorem SlT.wf {ks : List (Option IntKind)} {w : World} {v : Value} {xs : List RowV} (h : SlT ks w v xs) (j : Nat) (k : IntKind) (hk : ks[j]? = some (some k)) (h0 : (Lit.int k 0).wf = true) (i : Nat) : (Lit.int k ((tabV xs).c j i)).wf = true := by
  show (Lit.int k ((xs.getD i RowV.zero).c j)).wf = true
  by_cases hi : i < xs.length
  · rw [List.getD_eq_getElem?_getD, List.getElem?_eq_getElem hi]
    exact h.2 _ (List.getElem_mem hi) j k hk
  · rw [List.getD_eq_getElem?_getD, List.getElem?_eq_none (by omega)]
    exact h0
theorem heapV_get {ρ : Env} {w : World} : ∀ (l : List SlV) (i : Nat) (S : List SlV), (∀ j s, l[j]? = some s → S[i + j]? = some s) → (∀ s ∈ l, SlT s.ks w s.v s.xs) → ∀ b k, (mkH (heapV i l)).get b = some k → ArgAt ρ w k (sigV w S b)
  | [], i, S, _, _, b, k, h => by
    simp only [heapV, mkH] at h
    cases h
  | s :: l, i, S, hS, hT, b, k, h => by
    have h : ((mkH (heapV (i + 1) l)).set i (tabB s.ks (tabV s.xs))).get b = some k := h
    rw [Tr.get_set] at h
    split at h
    · rename_i hb
      cases h
      have := hS 0 s rfl
      rw [Nat.add_zero] at this
      rw [hb]
      exact ((hT s (by simp)).both this).2
    · exact heapV_get l (i + 1) S (fun j s' hj => by rw [show i + 1 + j = i + (j + 1) by omega]; exact hS (j + 1) s' (by simpa using hj)) (fun s' hs => hT s' (by simp [hs])) b k h
theorem argsV {ρ : Env} {w : World} (S : List SlV) (base : Nat) (hS : ∀ s ∈ S, SlT s.ks w s.v s.xs) (hL : Laid w) : HR ρ (sigV w S) (curOf (mkH (heapV 0 S)) base) w :=
  HR.ofArgs hL fun i k _ hk => heapV_get S 0 S (fun j s h => by rw [Nat.zero_add]; exact h) hS i k hk
end Go.Proofs.Ythagjhadjpangaa.Cx
