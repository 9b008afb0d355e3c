/- Calls that acme/acmelaw07.known makes, each known by a run of its own. Made by tools/cxkcalls.py. -/
import Derived.Test.YthagjhadjpangaaPkDPlans7

namespace Go.Proofs.Ythagjhadjpangaa.Cx
set_option maxRecDepth 100000
set_option linter.unusedVariables false
open Go Go.Proofs Go.RowKit
def CxKn07K2 : KCall := ⟨25, [.agg [.bool (.c false), .int .i64 (.c (-1000)), .int .i64 (.c 1000), .int .i64 (.c (-500)), .int .i64 (.c 500), .slc (some (0, 0)) 2 2], .slc (some (1, 0)) 2 2, .int .i64 (.c 0)], [([.int .i64 (.c 10), .int .i64 (.c 20), .int .i64 (.c 50), .int .i64 (.c 100)], 2), ([.int .i64 (.c 200), .int .i64 (.c 0), .int .i64 (.c 100000), .int .i64 (.c 110000), .int .i64 (.c 100), .int .i64 (.c 1), .int .i64 (.c 100000), .int .i64 (.c 110000)], 4)], .tup [.int .i64 (.c 231), .int .i64 (.c 0)], []⟩
theorem CxKn07K2_run : CxKn07K2.says (eval (ctxOf Try.prog memo0) 1000 CxKn07K2.blks.length (.call CxKn07K2.g CxKn07K2.args) ⟨hB CxKn07K2.blks 0, CxKn07K2.blks.length, [], []⟩) = true := by kernel_rfl
theorem CxKn07K2_ok {ρ : Env} : CxKn07K2.Ok Try.prog ρ := KCall.of_run try_ok memo0_ok (by kernel_rfl) (by kernel_rfl) (by kernel_rfl) CxKn07K2_run
def CxKn07K3 : KCall := ⟨26, [.agg [.bool (.c false), .int .i64 (.c (-1000)), .int .i64 (.c 1000), .int .i64 (.c (-500)), .int .i64 (.c 500), .slc (some (0, 0)) 2 2], .slc (some (1, 0)) 2 2], [([.int .i64 (.c 10), .int .i64 (.c 20), .int .i64 (.c 50), .int .i64 (.c 100)], 2), ([.int .i64 (.c 200), .int .i64 (.c 0), .int .i64 (.c 100000), .int .i64 (.c 110000), .int .i64 (.c 100), .int .i64 (.c 1), .int .i64 (.c 100000), .int .i64 (.c 110000)], 4)], .tup [.slc (some (2, 0)) 2 2, .int .i64 (.c 0)], [(725, ([.int .i64 (.c 0), .int .i64 (.c 101500), .int .i64 (.c 231), .int .i64 (.c 101500)], 2))]⟩
theorem CxKn07K3_run : CxKn07K3.says (eval (ctxOf Try.prog memo0) 1000 CxKn07K3.blks.length (.call CxKn07K3.g CxKn07K3.args) ⟨hB CxKn07K3.blks 0, CxKn07K3.blks.length, [], []⟩) = true := by kernel_rfl
theorem CxKn07K3_ok {ρ : Env} : CxKn07K3.Ok Try.prog ρ := KCall.of_run try_ok memo0_ok (by kernel_rfl) (by kernel_rfl) (by kernel_rfl) CxKn07K3_run
end Go.Proofs.Ythagjhadjpangaa.Cx

/- Calls that acme/acmelaw07.known makes, each known by a run of its own. Made by tools/cxkcalls.py. -/
namespace Go.Proofs.Ythagjhadjpangaa.Cx
set_option maxRecDepth 100000
set_option linter.unusedVariables false
open Go Go.Proofs Go.RowKit
def CxKn07K4 : KCall := ⟨30, [.agg [.bool (.c false), .int .i64 (.c (-1000)), .int .i64 (.c 1000), .int .i64 (.c (-500)), .int .i64 (.c 500), .slc (some (0, 0)) 2 2], .slc (some (1, 0)) 2 2, .int .i64 (.c 1)], [([.int .i64 (.c 10), .int .i64 (.c 20), .int .i64 (.c 50), .int .i64 (.c 100)], 2), ([.int .i64 (.c 200), .int .i64 (.c 0), .int .i64 (.c 100000), .int .i64 (.c 110000), .int .i64 (.c 100), .int .i64 (.c 1), .int .i64 (.c 100000), .int .i64 (.c 110000)], 4)], .tup [.int .i64 (.c 231), .int .i64 (.c 0)], []⟩
theorem CxKn07K4_run : CxKn07K4.says (eval (ctxOf Try.prog memo0) 1000 CxKn07K4.blks.length (.call CxKn07K4.g CxKn07K4.args) ⟨hB CxKn07K4.blks 0, CxKn07K4.blks.length, [], []⟩) = true := by kernel_rfl
theorem CxKn07K4_ok {ρ : Env} : CxKn07K4.Ok Try.prog ρ := KCall.of_run try_ok memo0_ok (by kernel_rfl) (by kernel_rfl) (by kernel_rfl) CxKn07K4_run
def CxKn07K5 : KCall := ⟨34, [.agg [.bool (.c false), .int .i64 (.c (-1000)), .int .i64 (.c 1000), .int .i64 (.c (-500)), .int .i64 (.c 500), .slc (some (0, 0)) 2 2], .slc (some (1, 0)) 2 2, .slc (some (2, 0)) 1 1], [([.int .i64 (.c 10), .int .i64 (.c 20), .int .i64 (.c 50), .int .i64 (.c 100)], 2), ([.int .i64 (.c 200), .int .i64 (.c 0), .int .i64 (.c 100000), .int .i64 (.c 110000), .int .i64 (.c 100), .int .i64 (.c 1), .int .i64 (.c 100000), .int .i64 (.c 110000)], 4), ([.int .i64 (.c 0), .int .i64 (.c 102000)], 2)], .tup [.int .i64 (.c 226), .int .i64 (.c 0)], []⟩
theorem CxKn07K5_run : CxKn07K5.says (eval (ctxOf Try.prog memo0) 1000 CxKn07K5.blks.length (.call CxKn07K5.g CxKn07K5.args) ⟨hB CxKn07K5.blks 0, CxKn07K5.blks.length, [], []⟩) = true := by kernel_rfl
theorem CxKn07K5_ok {ρ : Env} : CxKn07K5.Ok Try.prog ρ := KCall.of_run try_ok memo0_ok (by kernel_rfl) (by kernel_rfl) (by kernel_rfl) CxKn07K5_run
end Go.Proofs.Ythagjhadjpangaa.Cx

/- Calls that acme/acmelaw07.known makes, each known by a run of its own. Made by tools/cxkcalls.py. -/
namespace Go.Proofs.Ythagjhadjpangaa.Cx
set_option maxRecDepth 100000
set_option linter.unusedVariables false
open Go Go.Proofs Go.RowKit
def CxKn07K6 : KCall := ⟨35, [.agg [.bool (.c false), .int .i64 (.c (-1000)), .int .i64 (.c 1000), .int .i64 (.c (-500)), .int .i64 (.c 500), .slc (some (0, 0)) 2 2], .slc (some (1, 0)) 2 2, .slc (some (2, 0)) 2 2], [([.int .i64 (.c 10), .int .i64 (.c 20), .int .i64 (.c 50), .int .i64 (.c 100)], 2), ([.int .i64 (.c 200), .int .i64 (.c 0), .int .i64 (.c 100000), .int .i64 (.c 110000), .int .i64 (.c 100), .int .i64 (.c 1), .int .i64 (.c 100000), .int .i64 (.c 110000)], 4), ([.int .i64 (.c 0), .int .i64 (.c 231)], 1)], .tup [.int .i64 (.c (-1)), .int .i64 (.c 0)], []⟩
theorem CxKn07K6_run : CxKn07K6.says (eval (ctxOf Try.prog memo0) 1000 CxKn07K6.blks.length (.call CxKn07K6.g CxKn07K6.args) ⟨hB CxKn07K6.blks 0, CxKn07K6.blks.length, [], []⟩) = true := by kernel_rfl
theorem CxKn07K6_ok {ρ : Env} : CxKn07K6.Ok Try.prog ρ := KCall.of_run try_ok memo0_ok (by kernel_rfl) (by kernel_rfl) (by kernel_rfl) CxKn07K6_run
def CxKn07K7 : KCall := ⟨35, [.agg [.bool (.c false), .int .i64 (.c (-1000)), .int .i64 (.c 1000), .int .i64 (.c (-500)), .int .i64 (.c 500), .slc (some (0, 0)) 2 2], .slc (some (1, 0)) 2 2, .slc (some (2, 0)) 2 2], [([.int .i64 (.c 10), .int .i64 (.c 20), .int .i64 (.c 50), .int .i64 (.c 100)], 2), ([.int .i64 (.c 200), .int .i64 (.c 0), .int .i64 (.c 100000), .int .i64 (.c 110000), .int .i64 (.c 100), .int .i64 (.c 1), .int .i64 (.c 100000), .int .i64 (.c 110000)], 4), ([.int .i64 (.c 0), .int .i64 (.c 230)], 1)], .tup [.int .i64 (.c 0), .int .i64 (.c 0)], []⟩
theorem CxKn07K7_run : CxKn07K7.says (eval (ctxOf Try.prog memo0) 1000 CxKn07K7.blks.length (.call CxKn07K7.g CxKn07K7.args) ⟨hB CxKn07K7.blks 0, CxKn07K7.blks.length, [], []⟩) = true := by kernel_rfl
theorem CxKn07K7_ok {ρ : Env} : CxKn07K7.Ok Try.prog ρ := KCall.of_run try_ok memo0_ok (by kernel_rfl) (by kernel_rfl) (by kernel_rfl) CxKn07K7_run
end Go.Proofs.Ythagjhadjpangaa.Cx

/- Calls that acme/acmelaw07.known makes, each known by a run of its own. Made by tools/cxkcalls.py. -/
namespace Go.Proofs.Ythagjhadjpangaa.Cx
set_option maxRecDepth 100000
set_option linter.unusedVariables false
open Go Go.Proofs Go.RowKit
def CxKn07K8 : KCall := ⟨41, [.agg [.bool (.c false), .int .i64 (.c (-1000)), .int .i64 (.c 1000), .int .i64 (.c (-500)), .int .i64 (.c 500), .slc (some (0, 0)) 2 2], .agg [.int .i64 (.c 102400), .int .i64 (.c 103600)], .int .i64 (.c 1), .agg [.int .i64 (.c 100000), .int .i64 (.c 110000)]], [([.int .i64 (.c 10), .int .i64 (.c 20), .int .i64 (.c 50), .int .i64 (.c 100)], 2)], .tup [.int .i64 (.c 60), .int .i64 (.c 0)], []⟩
theorem CxKn07K8_run : CxKn07K8.says (eval (ctxOf Try.prog memo0) 1000 CxKn07K8.blks.length (.call CxKn07K8.g CxKn07K8.args) ⟨hB CxKn07K8.blks 0, CxKn07K8.blks.length, [], []⟩) = true := by kernel_rfl
theorem CxKn07K8_ok {ρ : Env} : CxKn07K8.Ok Try.prog ρ := KCall.of_run try_ok memo0_ok (by kernel_rfl) (by kernel_rfl) (by kernel_rfl) CxKn07K8_run
end Go.Proofs.Ythagjhadjpangaa.Cx

/- acme/acmelaw07.known returns true, in every world that holds what the listed variables hold: by the evaluator, its heavy calls by runs of their own. Made by tools/cxkcalls.py. -/
namespace Go.Proofs.Ythagjhadjpangaa.Cx
set_option maxRecDepth 100000
set_option linter.unusedVariables false
open Go Go.Proofs Go.RowKit
noncomputable def CxKn07C : Ctx := ctxOf Try.prog (memoK CxKn07K0 (memoK CxKn07K1 (memoK CxKn07K2 (memoK CxKn07K3 (memoK CxKn07K4 (memoK CxKn07K5 (memoK CxKn07K6 (memoK CxKn07K7 (memoK CxKn07K8 memo0)))))))))
theorem CxKn07_run : isTrue (eval CxKn07C 1000 0 (.call 14 []) .empty) = true := by kernel_rfl
theorem CxKn07_known : KnownB Try.prog 14 := known_of try_ok (memoK_ok CxKn07K0_ok (memoK_ok CxKn07K1_ok (memoK_ok CxKn07K2_ok (memoK_ok CxKn07K3_ok (memoK_ok CxKn07K4_ok (memoK_ok CxKn07K5_ok (memoK_ok CxKn07K6_ok (memoK_ok CxKn07K7_ok (memoK_ok CxKn07K8_ok memo0_ok))))))))) (by kernel_rfl) CxKn07_run
end Go.Proofs.Ythagjhadjpangaa.Cx

/- acme/acmelaw07.DiePlans as an automaton. Made by tools/cxauto.py. -/
namespace Go.Proofs.Ythagjhadjpangaa.Cx
set_option linter.unusedVariables false
set_option linter.unusedSimpArgs false
set_option maxRecDepth 100000
open Go Go.Proofs Go.RowKit
noncomputable abbrev dlpCode : Code := funcCode Try.f4
inductive dlpN where
  | n0 (p0 p1 : Nat) (p2 : Int) (p3 : Nat) (p4 p5 : Nat → Int) (p6 : Nat) (p7 p8 : Nat → Int)
abbrev dlpR := Bool
noncomputable def dlpD0 (a0 : Bool) (a1 a2 a3 a4 : Int) (a5 : Nat) (a6 a7 : Nat → Int) (a8 : Nat) (a9 a10 a11 a12 : Nat → Int) (a13 : Int) : DD (Lf dlpN dlpR) :=
 let z0 := decide (0 + a5 ≤ a5)
 let z1 := fun i => [CV.int IntKind.i64 (IE.x (a6 (0 + i))), CV.int IntKind.i64 (IE.x (a7 (0 + i)))]
 let z2 := ShapeOk [some IntKind.i64, some IntKind.i64] (tabOf a5 z1) z1
 let z3 := decide (0 + a8 ≤ a8)
 let z4 := fun i => [CV.int IntKind.i64 (IE.x (a9 (0 + i))), CV.int IntKind.i64 (IE.x (a10 (0 + i))), CV.int IntKind.i64 (IE.x (a11 (0 + i))), CV.int IntKind.i64 (IE.x (a12 (0 + i)))]
 let z5 := ShapeOk [some IntKind.i64, some IntKind.i64, some IntKind.i64, some IntKind.i64] (tabOf a8 z4) z4
 let z6 := fun i => a6 (0 + i)
 let z7 := fun i => a7 (0 + i)
 let z8 := fun i => a9 (0 + i)
 let z9 := fun i => a10 (0 + i)
 let z10 := fun i => a11 (0 + i)
 let z11 := fun i => a12 (0 + i)
 let z12 := rdkA a0 a1 a2 a3 a4 a5 z6 z7 a8 z8 z9 z10 z11
 let z13 := AF.fin z12
 let z14 := AF.val z12
 let z15 := rdaA a8 z8 z9 z10 z11
 let z16 := AF.fin z15
 let z17 := AF.val z15
 let z18 := decide (a5 ≤ 10000)
 let z19 := decide (a8 ≤ 10000)
 let z20 := fun i => [CV.int IntKind.i64 (IE.x (a6 (0 + (0 + i)))), CV.int IntKind.i64 (IE.x (a7 (0 + (0 + i))))]
 let z21 := ShapeOk [some IntKind.i64, some IntKind.i64] (tabOf a5 z20) z20
 let z22 := decide (a5 ≤ a5)
 let z23 := fun i => [CV.int IntKind.i64 (IE.x (a9 (0 + (0 + i)))), CV.int IntKind.i64 (IE.x (a10 (0 + (0 + i)))), CV.int IntKind.i64 (IE.x (a11 (0 + (0 + i)))), CV.int IntKind.i64 (IE.x (a12 (0 + (0 + i))))]
 let z24 := ShapeOk [some IntKind.i64, some IntKind.i64, some IntKind.i64, some IntKind.i64] (tabOf a8 z23) z23
 let z25 := decide (a8 ≤ a8)
 let z26 := fun i => a6 (0 + (0 + i))
 let z27 := fun i => a7 (0 + (0 + i))
 let z28 := fun i => a9 (0 + (0 + i))
 let z29 := fun i => a10 (0 + (0 + i))
 let z30 := fun i => a11 (0 + (0 + i))
 let z31 := fun i => a12 (0 + (0 + i))
 let z32 := draA a0 a1 a2 a3 a4 a5 z26 z27 a8 z28 z29 z30 z31 a13
 let z33 := AF.fin z32
 let z34 := dplA a0 a1 a2 a3 a4 a5 z26 z27 a8 z28 z29 z30 z31
 let z35 := AF.fin z34
 let z36 := Cm.run .neq z14 0
 let z37 := AF.val z32
 let z38 := Prod.snd z37
 let z39 := Cm.run .eql z38 z14
 let z40 := AF.val z34
 let z41 := dplw1 z40
 let z42 := Cm.run .eql z41 z14
 let z43 := Prod.fst z37
 let z44 := Cm.run .eql z43 0
 let z45 := dplw0 z40
 let z46 := (↑z45 : Int)
 let z47 := z46
 let z48 := Cm.run .geq a13 0
 let z49 := Cm.run .leq a13 (Ar.run .sub .i64 z17 1)
 let z50 := Cm.run .neq z38 0
 let z51 := rdrA a0 a1 a2 a3 a4 a5 z6 z7 a8 z8 z9 z10 z11 a13
 let z52 := AF.fin z51
 let z53 := Cm.run .neq z43 (AF.val z51)
 let z54 := rdpA a0 a1 a2 a3 a4 a5 z6 z7 a8 z8 z9 z10 z11
 let z55 := AF.fin z54
 let z56 := AF.val z54
 let z57 := !rdpw1 z56
 let z58 := Cm.run .eql z41 7
 let z59 := Cm.run .neq z41 0
 let z60 := rdpw0 z56
 let z61 := (↑z60 : Int)
 let z62 := fun i => dplw2 z40 i
 let z63 := fun i => dplw3 z40 i
 let z64 := fun i => rdpw2 z56 i
 let z65 := fun i => rdpw3 z56 i
 let z66 := Cm.run .neq z38 3
 let z67 := Cm.run .neq z43 0
 .ask (Cm.run .gtr ((↑a5 : Int)) 15)
   (.leaf (.done true []))
   (.ask (Cm.run .gtr ((↑a8 : Int)) 45)
   (.leaf (.done true []))
   (.must z0
   (.must z2
   (.must z3
   (.must z5
   (.must z13
   (.ask (Cm.run .eql z14 0)
   (.must z3
   (.must z5
   (.must z16
   (.ask (Cm.run .gtr z17 300)
   (.leaf (.done true []))
   (.must z0
   (.must z18
   (.must z3
   (.must z19
   (.must z0
   (.must z21
   (.must z22
   (.must z3
   (.must z24
   (.must z25
   (.must z33
   (.must z0
   (.must z18
   (.must z3
   (.must z19
   (.must z0
   (.must z21
   (.must z22
   (.must z3
   (.must z24
   (.must z25
   (.must z35
   (.must z0
   (.must z2
   (.must z3
   (.must z5
   (.must z13
   (.ask z36
   (.ask z39
   (.ask z42
   (.ask z44
   (.ask (Cm.run .eql z47 0)
   (.leaf (.done true []))
   (.leaf (.done false [])))
   (.leaf (.done false [])))
   (.leaf (.done false [])))
   (.leaf (.done false [])))
   (.must z3
   (.must z5
   (.must z16
   (.ask z48
   (.ask z49
   (.ask z50
   (.leaf (.done false []))
   (.must z0
   (.must z2
   (.must z3
   (.must z5
   (.must z52
   (.ask z53
   (.leaf (.done false []))
   (.must z0
   (.must z2
   (.must z3
   (.must z5
   (.must z55
   (.ask z57
   (.ask z58
   (.ask (Cm.run .eql z47 0)
   (.leaf (.done true []))
   (.leaf (.done false [])))
   (.leaf (.done false [])))
   (.ask z59
   (.leaf (.done false []))
   (.ask (Cm.run .neq z46 z61)
   (.leaf (.done false []))
   (.leaf (.next (.n0 z45 z60 0 z45 z62 z63 z60 z64 z65) [16, 17])))))))))))))))))
   (.ask z66
   (.leaf (.done false []))
   (.ask z67
   (.leaf (.done false []))
   (.must z0
   (.must z2
   (.must z3
   (.must z5
   (.must z55
   (.ask z57
   (.ask z58
   (.ask (Cm.run .eql z47 0)
   (.leaf (.done true []))
   (.leaf (.done false [])))
   (.leaf (.done false [])))
   (.ask z59
   (.leaf (.done false []))
   (.ask (Cm.run .neq z46 z61)
   (.leaf (.done false []))
   (.leaf (.next (.n0 z45 z60 0 z45 z62 z63 z60 z64 z65) [16, 17])))))))))))))
   (.ask z66
   (.leaf (.done false []))
   (.ask z67
   (.leaf (.done false []))
   (.must z0
   (.must z2
   (.must z3
   (.must z5
   (.must z55
   (.ask z57
   (.ask z58
   (.ask (Cm.run .eql z47 0)
   (.leaf (.done true []))
   (.leaf (.done false [])))
   (.leaf (.done false [])))
   (.ask z59
   (.leaf (.done false []))
   (.ask (Cm.run .neq z46 z61)
   (.leaf (.done false []))
   (.leaf (.next (.n0 z45 z60 0 z45 z62 z63 z60 z64 z65) [16, 17]))))))))))))))))))))))))))))))))))))))))))))))))
   (.must z0
   (.must z18
   (.must z3
   (.must z19
   (.must z0
   (.must z21
   (.must z22
   (.must z3
   (.must z24
   (.must z25
   (.must z33
   (.must z0
   (.must z18
   (.must z3
   (.must z19
   (.must z0
   (.must z21
   (.must z22
   (.must z3
   (.must z24
   (.must z25
   (.must z35
   (.must z0
   (.must z2
   (.must z3
   (.must z5
   (.must z13
   (.ask z36
   (.ask z39
   (.ask z42
   (.ask z44
   (.ask (Cm.run .eql z47 0)
   (.leaf (.done true []))
   (.leaf (.done false [])))
   (.leaf (.done false [])))
   (.leaf (.done false [])))
   (.leaf (.done false [])))
   (.must z3
   (.must z5
   (.must z16
   (.ask z48
   (.ask z49
   (.ask z50
   (.leaf (.done false []))
   (.must z0
   (.must z2
   (.must z3
   (.must z5
   (.must z52
   (.ask z53
   (.leaf (.done false []))
   (.must z0
   (.must z2
   (.must z3
   (.must z5
   (.must z55
   (.ask z57
   (.ask z58
   (.ask (Cm.run .eql z47 0)
   (.leaf (.done true []))
   (.leaf (.done false [])))
   (.leaf (.done false [])))
   (.ask z59
   (.leaf (.done false []))
   (.ask (Cm.run .neq z46 z61)
   (.leaf (.done false []))
   (.leaf (.next (.n0 z45 z60 0 z45 z62 z63 z60 z64 z65) [16, 17])))))))))))))))))
   (.ask z66
   (.leaf (.done false []))
   (.ask z67
   (.leaf (.done false []))
   (.must z0
   (.must z2
   (.must z3
   (.must z5
   (.must z55
   (.ask z57
   (.ask z58
   (.ask (Cm.run .eql z47 0)
   (.leaf (.done true []))
   (.leaf (.done false [])))
   (.leaf (.done false [])))
   (.ask z59
   (.leaf (.done false []))
   (.ask (Cm.run .neq z46 z61)
   (.leaf (.done false []))
   (.leaf (.next (.n0 z45 z60 0 z45 z62 z63 z60 z64 z65) [16, 17])))))))))))))
   (.ask z66
   (.leaf (.done false []))
   (.ask z67
   (.leaf (.done false []))
   (.must z0
   (.must z2
   (.must z3
   (.must z5
   (.must z55
   (.ask z57
   (.ask z58
   (.ask (Cm.run .eql z47 0)
   (.leaf (.done true []))
   (.leaf (.done false [])))
   (.leaf (.done false [])))
   (.ask z59
   (.leaf (.done false []))
   (.ask (Cm.run .neq z46 z61)
   (.leaf (.done false []))
   (.leaf (.next (.n0 z45 z60 0 z45 z62 z63 z60 z64 z65) [16, 17])))))))))))))))))))))))))))))))))))))))))))))))))))

noncomputable def dlpD (a0 : Bool) (a1 a2 a3 a4 : Int) (a5 : Nat) (a6 a7 : Nat → Int) (a8 : Nat) (a9 a10 a11 a12 : Nat → Int) (a13 : Int) : dlpN → DD (Lf dlpN dlpR)
 | .n0 p0 p1 p2 p3 p4 p5 p6 p7 p8 =>
 let z0 := decide (0 ≤ p2)
 .ask (Cm.run .lss p2 (↑p0 : Int))
   (.must z0
   (.must (decide (p2 < (↑p0 : Int)))
   (.must (decide (0 + Int.toNat p2 < p3))
   (.must z0
   (.must (decide (p2 < (↑p1 : Int)))
   (.must (decide (0 + Int.toNat p2 < p6))
   (.ask (Cm.run .eql (p4 (0 + Int.toNat p2)) (p7 (0 + Int.toNat p2)))
   (.ask (Cm.run .eql (p5 (0 + Int.toNat p2)) (p8 (0 + Int.toNat p2)))
   (.leaf (.next (.n0 p0 p1 (Ar.run .add .i64 p2 1) p3 (fun i => p4 i) (fun i => p5 i) p6 (fun i => p7 i) (fun i => p8 i)) [2, 3]))
   (.leaf (.done false [])))
   (.leaf (.done false [])))))))))
   (.leaf (.done true []))

noncomputable def dlpA (a0 : Bool) (a1 a2 a3 a4 : Int) (a5 : Nat) (a6 a7 : Nat → Int) (a8 : Nat) (a9 a10 a11 a12 : Nat → Int) (a13 : Int) : AF dlpN dlpR where
  code := dlpCode
  base := 2
  nt := 125
  m := 400
  un := []
  W := []
  h0 := [(0, ⟨.arg a5 2 (fun i => [.int .i64 (.x (a6 i)), .int .i64 (.x (a7 i))]) (fun _ => ⟨rfl, rfl⟩), 2, true, none⟩), (1, ⟨.arg a8 4 (fun i => [.int .i64 (.x (a9 i)), .int .i64 (.x (a10 i)), .int .i64 (.x (a11 i)), .int .i64 (.x (a12 i))]) (fun _ => ⟨rfl, rfl⟩), 4, true, none⟩)]
  args := [.agg [.bool (.x a0), .int .i64 (.x a1), .int .i64 (.x a2), .int .i64 (.x a3), .int .i64 (.x a4), .sla 0 2 0 a5], .sla 1 4 0 a8, .int .i64 (.x a13)]
  res := (Try.f4).results.toList
  path := fun a => match a with
   | .n0 p0 p1 p2 p3 p4 p5 p6 p7 p8 => [1, 1, 1, 1, 1, 1, 1, 1, 1, 0, 1, 0]
  pd := fun a => match a with
   | .n0 p0 p1 p2 p3 p4 p5 p6 p7 p8 => ⟨[(9, .sla 2 2 0 p0), (12, .sla 3 2 0 p1), (14, .int .i64 (.x p2))], [(2, ⟨.rows p3 2 (fun i => [.int .i64 (.x (p4 i)), .int .i64 (.x (p5 i))]) (fun _ => ⟨rfl, rfl⟩), 2, true, none⟩), (3, ⟨.rows p6 2 (fun i => [.int .i64 (.x (p7 i)), .int .i64 (.x (p8 i))]) (fun _ => ⟨rfl, rfl⟩), 2, true, none⟩)], 4, []⟩
  D0 := dlpD0 a0 a1 a2 a3 a4 a5 a6 a7 a8 a9 a10 a11 a12 a13
  D := dlpD a0 a1 a2 a3 a4 a5 a6 a7 a8 a9 a10 a11 a12 a13
  rc := (fun v => .bool (.x v))
  rh := (fun v => [])
  rn := (fun v => 2)
  rx := (fun v => [])
  rgo := (fun _ => none)
theorem dlpstart (a0 : Bool) (a1 a2 a3 a4 : Int) (a5 : Nat) (a6 a7 : Nat → Int) (a8 : Nat) (a9 a10 a11 a12 : Nat → Int) (a13 : Int) : AF.edgeOk (dlpA a0 a1 a2 a3 a4 a5 a6 a7 a8 a9 a10 a11 a12 a13) (ctxOf Try.prog memo0) (dlpD0 a0 a1 a2 a3 a4 a5 a6 a7 a8 a9 a10 a11 a12 a13) (AF.run0 (dlpA a0 a1 a2 a3 a4 a5 a6 a7 a8 a9 a10 a11 a12 a13) (ctxOf Try.prog (memoS 21 rdkP rdkF rdkW rdkH 2 (memoS 22 rdaP rdaF rdaW rdaH 1 (memoS 25 draP draF draW draH 2 (memoS 28 rdrP rdrF rdrW rdrH 2 (memoS 26 dplP dplF dplW dplH 3 (memoS 29 rdpP rdpF rdpW rdpH 3 (memoB [14]))))))))) := by unfold AF.edgeOk; kernel_rfl
theorem dlpnode0 (a0 : Bool) (a1 a2 a3 a4 : Int) (a5 : Nat) (a6 a7 : Nat → Int) (a8 : Nat) (a9 a10 a11 a12 : Nat → Int) (a13 : Int) (p0 p1 : Nat) (p2 : Int) (p3 : Nat) (p4 p5 : Nat → Int) (p6 : Nat) (p7 p8 : Nat → Int) : AF.edgeOk (dlpA a0 a1 a2 a3 a4 a5 a6 a7 a8 a9 a10 a11 a12 a13) (ctxOf Try.prog memo0) (dlpD a0 a1 a2 a3 a4 a5 a6 a7 a8 a9 a10 a11 a12 a13 (.n0 p0 p1 p2 p3 p4 p5 p6 p7 p8)) (AF.runN (dlpA a0 a1 a2 a3 a4 a5 a6 a7 a8 a9 a10 a11 a12 a13) (ctxOf Try.prog (memoS 21 rdkP rdkF rdkW rdkH 2 (memoS 22 rdaP rdaF rdaW rdaH 1 (memoS 25 draP draF draW draH 2 (memoS 28 rdrP rdrF rdrW rdrH 2 (memoS 26 dplP dplF dplW dplH 3 (memoS 29 rdpP rdpF rdpW rdpH 3 (memoB [14])))))))) (.n0 p0 p1 p2 p3 p4 p5 p6 p7 p8)) := by unfold AF.edgeOk; kernel_rfl
theorem dlpok (a0 : Bool) (a1 a2 a3 a4 : Int) (a5 : Nat) (a6 a7 : Nat → Int) (a8 : Nat) (a9 a10 a11 a12 : Nat → Int) (a13 : Int) : (dlpA a0 a1 a2 a3 a4 a5 a6 a7 a8 a9 a10 a11 a12 a13).Ok Try.prog (ctxOf Try.prog (memoS 21 rdkP rdkF rdkW rdkH 2 (memoS 22 rdaP rdaF rdaW rdaH 1 (memoS 25 draP draF draW draH 2 (memoS 28 rdrP rdrF rdrW rdrH 2 (memoS 26 dplP dplF dplW dplH 3 (memoS 29 rdpP rdpF rdpW rdpH 3 (memoB [14])))))))) where
  regs := by kernel_rfl
  h0 := by kernel_rfl
  start := dlpstart a0 a1 a2 a3 a4 a5 a6 a7 a8 a9 a10 a11 a12 a13
  node := fun a _ => match a with
   | .n0 p0 p1 p2 p3 p4 p5 p6 p7 p8 => dlpnode0 a0 a1 a2 a3 a4 a5 a6 a7 a8 a9 a10 a11 a12 a13 p0 p1 p2 p3 p4 p5 p6 p7 p8
  pd := fun a => match a with
   | .n0 p0 p1 p2 p3 p4 p5 p6 p7 p8 => ⟨(fa_cons rfl (fa_cons rfl (fa_cons rfl fa_nil))), (fa_cons ⟨.inl (Nat.le_of_ble_eq_true rfl), (fun _ => rfl), rfl⟩ (fa_cons ⟨.inl (Nat.le_of_ble_eq_true rfl), (fun _ => rfl), rfl⟩ fa_nil)), fa_nil, rfl⟩
  le := fun a => match a with
   | .n0 p0 p1 p2 p3 p4 p5 p6 p7 p8 => Nat.le_of_ble_eq_true rfl
  rd := fun v => ⟨⟨fa_nil, fa_nil, fa_nil, rfl⟩, rfl⟩
  wb := rfl
theorem dlphR {ρ : Env} (a0 : Bool) (a1 a2 a3 a4 : Int) (a5 : Nat) (a6 a7 : Nat → Int) (a8 : Nat) (a9 a10 a11 a12 : Nat → Int) (a13 : Int) (hM : MemoOk Try.prog (ctxOf Try.prog (memoS 21 rdkP rdkF rdkW rdkH 2 (memoS 22 rdaP rdaF rdaW rdaH 1 (memoS 25 draP draF draW draH 2 (memoS 28 rdrP rdrF rdrW rdrH 2 (memoS 26 dplP dplF dplW dplH 3 (memoS 29 rdpP rdpF rdpW rdpH 3 (memoB [14])))))))) ρ) : ∀ X a q n D, FxOk ρ X → X.base = (dlpA a0 a1 a2 a3 a4 a5 a6 a7 a8 a9 a10 a11 a12 a13).base → X.nt = (dlpA a0 a1 a2 a3 a4 a5 a6 a7 a8 a9 a10 a11 a12 a13).nt → X.W = (dlpA a0 a1 a2 a3 a4 a5 a6 a7 a8 a9 a10 a11 a12 a13).W → (dlpA a0 a1 a2 a3 a4 a5 a6 a7 a8 a9 a10 a11 a12 a13).rgo a = some q → q n = some D → (dlpA a0 a1 a2 a3 a4 a5 a6 a7 a8 a9 a10 a11 a12 a13).RangeOk Try.prog ρ X a D := AF.noRange rfl
theorem dlpctr {ρ : Env} (a0 : Bool) (a1 a2 a3 a4 : Int) (a5 : Nat) (a6 a7 : Nat → Int) (a8 : Nat) (a9 a10 a11 a12 : Nat → Int) (a13 : Int) {n : Nat} {v : dlpR} (hM : MemoOk Try.prog (ctxOf Try.prog (memoS 21 rdkP rdkF rdkW rdkH 2 (memoS 22 rdaP rdaF rdaW rdaH 1 (memoS 25 draP draF draW draH 2 (memoS 28 rdrP rdrF rdrW rdrH 2 (memoS 26 dplP dplF dplW dplH 3 (memoS 29 rdpP rdpF rdpW rdpH 3 (memoB [14])))))))) ρ) (hv : (dlpA a0 a1 a2 a3 a4 a5 a6 a7 a8 a9 a10 a11 a12 a13).run n = some v) :
    Ctr Try.prog ρ 4 (dlpA a0 a1 a2 a3 a4 a5 a6 a7 a8 a9 a10 a11 a12 a13).args (dlpA a0 a1 a2 a3 a4 a5 a6 a7 a8 a9 a10 a11 a12 a13).H0 (dlpA a0 a1 a2 a3 a4 a5 a6 a7 a8 a9 a10 a11 a12 a13).base (dlpA a0 a1 a2 a3 a4 a5 a6 a7 a8 a9 a10 a11 a12 a13).W ((dlpA a0 a1 a2 a3 a4 a5 a6 a7 a8 a9 a10 a11 a12 a13).rc v) (putH (dlpA a0 a1 a2 a3 a4 a5 a6 a7 a8 a9 a10 a11 a12 a13).H0 ((dlpA a0 a1 a2 a3 a4 a5 a6 a7 a8 a9 a10 a11 a12 a13).rh v ++ (dlpA a0 a1 a2 a3 a4 a5 a6 a7 a8 a9 a10 a11 a12 a13).rx v)) ((dlpA a0 a1 a2 a3 a4 a5 a6 a7 a8 a9 a10 a11 a12 a13).rn v) :=
  AF.ctr try_ok hM (dlpok a0 a1 a2 a3 a4 a5 a6 a7 a8 a9 a10 a11 a12 a13) (fn := Try.f4) Try.func4 rfl rfl (Nat.le_of_ble_eq_true rfl) rfl (dlphR a0 a1 a2 a3 a4 a5 a6 a7 a8 a9 a10 a11 a12 a13 hM) hv
theorem dlpmem {ρ : Env} : MemoOk Try.prog (ctxOf Try.prog (memoS 21 rdkP rdkF rdkW rdkH 2 (memoS 22 rdaP rdaF rdaW rdaH 1 (memoS 25 draP draF draW draH 2 (memoS 28 rdrP rdrF rdrW rdrH 2 (memoS 26 dplP dplF dplW dplH 3 (memoS 29 rdpP rdpF rdpW rdpH 3 (memoB [14])))))))) ρ := (memoS_ok (rdkknown rdkmem) (memoS_ok (rdaknown rdamem) (memoS_ok (draknown dramem) (memoS_ok (rdrknown rdrmem) (memoS_ok (dplknown dplmem) (memoS_ok (rdpknown rdpmem) (memoB_ok (fun f hf => by
    simp only [List.mem_cons, List.not_mem_nil, or_false] at hf
    subst hf
    exact CxKn07_known))))))))
abbrev dlpP : List AQ := [.agg [.bool, .int .i64, .int .i64, .int .i64, .int .i64, .rows [some .i64, some .i64]], .rows [some .i64, some .i64, some .i64, some .i64], .int .i64]
noncomputable def dlpF (v : AW) : AF dlpN dlpR := dlpA (v.b.getD 0 false) (v.i.getD 0 0) (v.i.getD 1 0) (v.i.getD 2 0) (v.i.getD 3 0) (v.t.getD 0 .none).n ((v.t.getD 0 .none).c 0) ((v.t.getD 0 .none).c 1) (v.t.getD 1 .none).n ((v.t.getD 1 .none).c 0) ((v.t.getD 1 .none).c 1) ((v.t.getD 1 .none).c 2) ((v.t.getD 1 .none).c 3) (v.i.getD 4 0)
noncomputable def dlpW : dlpR → CV := fun v => .bool (.x v)
noncomputable def dlpH : dlpR → List (Nat × Blk) := fun v => []
instance : Inhabited dlpR := ⟨false⟩
theorem dlpknown {ρ : Env} (hM : MemoOk Try.prog (ctxOf Try.prog (memoS 21 rdkP rdkF rdkW rdkH 2 (memoS 22 rdaP rdaF rdaW rdaH 1 (memoS 25 draP draF draW draH 2 (memoS 28 rdrP rdrF rdrW rdrH 2 (memoS 26 dplP dplF dplW dplH 3 (memoS 29 rdpP rdpF rdpW rdpH 3 (memoB [14])))))))) ρ) : KnownS Try.prog ρ 4 dlpP dlpF dlpW dlpH 2 where
  fn := ⟨Try.f4, Try.func4, rfl⟩
  le := Nat.le_of_ble_eq_true rfl
  full := fun r => rfl
  rg := fun r => rfl
  hg := fun r => fa_nil
  ctr := fun v n r h => dlpctr (v.b.getD 0 false) (v.i.getD 0 0) (v.i.getD 1 0) (v.i.getD 2 0) (v.i.getD 3 0) (v.t.getD 0 .none).n ((v.t.getD 0 .none).c 0) ((v.t.getD 0 .none).c 1) (v.t.getD 1 .none).n ((v.t.getD 1 .none).c 0) ((v.t.getD 1 .none).c 1) ((v.t.getD 1 .none).c 2) ((v.t.getD 1 .none).c 3) (v.i.getD 4 0) hM h
end Go.Proofs.Ythagjhadjpangaa.Cx

/- DiePlans: the law's run. -/
namespace Go.Proofs.Ythagjhadjpangaa.Cx
set_option linter.unusedVariables false
set_option linter.unusedSimpArgs false
set_option maxRecDepth 100000
set_option maxHeartbeats 4000000
open Go Go.RowKit
structure SameP (n m k l : Nat) (F G F' G' : Nat → Int) : Prop where
  en : n = m
  ek : k = n
  el : l = n
  ef : n ≤ 10000
  same : ∀ i, i < n → F i = F' i ∧ G i = G' i
def DlpI : dlpN → Prop
  | .n0 p0 p1 p2 p3 p4 p5 p6 p7 p8 => SameP p0 p1 p3 p6 p4 p5 p7 p8 ∧ 0 ≤ p2 ∧ p2 ≤ p0
theorem DlpI.mk {n m : Nat} {F G F' G' : Nat → Int} (h : n = m) (hf : n ≤ 10000) (hs : ∀ i, i < n → F i = F' i ∧ G i = G' i) : DlpI (.n0 n m 0 n F G m F' G') := ⟨⟨h, rfl, h.symm, hf, hs⟩, Int.le_refl _, by omega⟩
theorem dlp_sat (a0 : Bool) (a1 a2 a3 a4 : Int) (a5 : Nat) (a6 a7 : Nat → Int) (a8 : Nat) (a9 a10 a11 a12 : Nat → Int) (a13 : Int) : DD.sat DlpI (fun v => v = true) (dlpD0 a0 a1 a2 a3 a4 a5 a6 a7 a8 a9 a10 a11 a12 a13) := by
  by_cases hb1 : a5 > 15
  · unfold dlpD0
    simp only [DD.sat, cmGtr, cmGtrF]
    exact ⟨fun h => trivial, fun h => by omega⟩
  by_cases hb2 : a8 > 45
  · unfold dlpD0
    simp only [DD.sat, cmGtr, cmGtrF]
    exact ⟨fun h => trivial, fun h => ⟨fun h => trivial, fun h => by omega⟩⟩
  have hn' : a5 ≤ 10000 := by omega
  have hm' : a8 ≤ 10000 := by omega
  obtain ⟨cf, cs⟩ := dck_val (a0 := a0) (a1 := a1) (a2 := a2) (a3 := a3) (a4 := a4) (a5 := a5) (a6 := a6) (a7 := a7) (a8 := a8) (a9 := a9) (a10 := a10) (a11 := a11) (a12 := a12) hn' hm'
  obtain ⟨kf, ks⟩ := rdk_val (a0 := a0) (a1 := a1) (a2 := a2) (a3 := a3) (a4 := a4) (a5 := a5) (a6 := a6) (a7 := a7) (a8 := a8) (a9 := a9) (a10 := a10) (a11 := a11) (a12 := a12) hn' hm'
  by_cases hbig : CkS a5 a8 (ToolOk a5 a6 a7 a1 a2 a3 a4) a9 a10 a11 a12 0 ∧ PS a9 a8 > 300
  · obtain ⟨hC, hbig⟩ := hbig
    have kvE : AF.val (rdkA a0 a1 a2 a3 a4 a5 (fun i => a6 i) (fun i => a7 i) a8 (fun i => a9 i) (fun i => a10 i) (fun i => a11 i) (fun i => a12 i)) = 0 := ks.same hC
    obtain ⟨af, av⟩ := rda_val (a0 := a8) (a1 := a9) (a2 := a10) (a3 := a11) (a4 := a12) hC.job.few hC.job.pc
    have avE : AF.val (rdaA a8 (fun i => a9 i) (fun i => a10 i) (fun i => a11 i) (fun i => a12 i)) = _ := av
    unfold dlpD0
    simp only [DD.sat, Nat.zero_add, cmLss, cmLssF, cmLeq, cmLeqF, cmGtr, cmGtrF, cmGeq, cmGeqF, cmEql, cmEqlF, cmNeq, cmNeqF, decide_eq_true_eq, Bool.not_eq_true', Bool.not_eq_false', kvE, avE]
    repeat' (first
      | exact Nat.le_refl _
      | exact shape_ok fun i _ => rfl
      | assumption
      | trivial
      | (intro hx; first | (exfalso; omega) | skip)
      | apply And.intro)
  have hp : CkS a5 a8 (ToolOk a5 a6 a7 a1 a2 a3 a4) a9 a10 a11 a12 0 → PS a9 a8 ≤ 300 := fun h => Int.not_lt.1 fun hx => hbig ⟨h, hx⟩
  obtain ⟨rf, e, hC, rv⟩ := dra_val (a0 := a0) (a1 := a1) (a2 := a2) (a3 := a3) (a4 := a4) (a5 := a5) (a6 := a6) (a7 := a7) (a8 := a8) (a9 := a9) (a10 := a10) (a11 := a11) (a12 := a12) (a13 := a13) hn' hm'
  obtain ⟨pf, e', hC', pv⟩ := dpl_val (a0 := a0) (a1 := a1) (a2 := a2) (a3 := a3) (a4 := a4) (a5 := a5) (a6 := a6) (a7 := a7) (a8 := a8) (a9 := a9) (a10 := a10) (a11 := a11) (a12 := a12) hn' hm' (fun h => by have := hp h; omega)
  obtain rfl := hC.same hC'
  have cv : AF.val (dckA a0 a1 a2 a3 a4 a5 a6 a7 a8 a9 a10 a11 a12) = e := cs.same hC
  have kv : AF.val (rdkA a0 a1 a2 a3 a4 a5 a6 a7 a8 a9 a10 a11 a12) = e := ks.same hC
  clear cs ks hC'
  have kvE : AF.val (rdkA a0 a1 a2 a3 a4 a5 (fun i => a6 i) (fun i => a7 i) a8 (fun i => a9 i) (fun i => a10 i) (fun i => a11 i) (fun i => a12 i)) = e := kv
  have cvE : AF.val (dckA a0 a1 a2 a3 a4 a5 (fun i => a6 i) (fun i => a7 i) a8 (fun i => a9 i) (fun i => a10 i) (fun i => a11 i) (fun i => a12 i)) = e := cv
  unfold dlpD0
  rcases rv with ⟨he, rv⟩ | ⟨he, rv⟩
  · rcases pv with ⟨_, pv⟩ | ⟨he', _⟩
    rotate_left
    · exact absurd he' he
    have rvE : AF.val (draA a0 a1 a2 a3 a4 a5 (fun i => a6 i) (fun i => a7 i) a8 (fun i => a9 i) (fun i => a10 i) (fun i => a11 i) (fun i => a12 i) a13) = _ := rv
    have pvE : AF.val (dplA a0 a1 a2 a3 a4 a5 (fun i => a6 i) (fun i => a7 i) a8 (fun i => a9 i) (fun i => a10 i) (fun i => a11 i) (fun i => a12 i)) = _ := pv
    simp only [DD.sat, Nat.zero_add, cmLss, cmLssF, cmLeq, cmLeqF, cmGtr, cmGtrF, cmGeq, cmGeqF, cmEql, cmEqlF, cmNeq, cmNeqF, decide_eq_true_eq, Bool.not_eq_true', Bool.not_eq_false', kvE, cvE, rvE, pvE, dplw0, dplw1, dplw2, dplw3]
    repeat' (first
      | exact Nat.le_refl _
      | exact shape_ok fun i _ => rfl
      | assumption
      | trivial
      | (intro hx; first | (exfalso; omega) | skip)
      | apply And.intro)
  · subst he
    have job := hC.job
    have hT := JobOk.pos hC
    have h3 := hp hC
    replace pv := (pv.resolve_left (fun q => q.1 rfl)).2
    obtain ⟨af, av⟩ := rda_val (a0 := a8) (a1 := a9) (a2 := a10) (a3 := a11) (a4 := a12) job.few job.pc
    have avE : AF.val (rdaA a8 (fun i => a9 i) (fun i => a10 i) (fun i => a11 i) (fun i => a12 i)) = _ := av
    have es : Ar.run .sub .i64 (PS a9 a8) 1 = PS a9 a8 - 1 := arSub (by omega)
    obtain ⟨qf, qv⟩ := rdp_val (a0 := a0) job hT (by omega)
    have main : (∃ k F G F' G', AF.val (dplA a0 a1 a2 a3 a4 a5 a6 a7 a8 a9 a10 a11 a12) = .r1 k F G ∧ AF.val (rdpA a0 a1 a2 a3 a4 a5 a6 a7 a8 a9 a10 a11 a12) = .r2 k F' G' ∧ k ≤ 10000 ∧ ∀ i, i < k → F i = F' i ∧ G i = G' i) ∨ (AF.val (dplA a0 a1 a2 a3 a4 a5 a6 a7 a8 a9 a10 a11 a12) = .r0 7 ∧ AF.val (rdpA a0 a1 a2 a3 a4 a5 a6 a7 a8 a9 a10 a11 a12) = .r1) := by
      rcases pv with ⟨s, pv⟩ | ⟨k, F, G, c, pv⟩ <;> rcases qv with ⟨s', qv⟩ | ⟨k', F', G', c', qv⟩
      · exact .inr ⟨pv, qv⟩
      · exact (s.no narr c').elim
      · exact (s'.no narr c).elim
      · obtain ⟨rfl, hs⟩ := c.same narr c'
        have hl := c.len
        exact .inl ⟨k, F, G, F', G', pv, qv, by omega, hs⟩
    clear pv qv
    have reach : (¬ (0 ≤ a13 ∧ a13 < PS a9 a8) ∧ AF.val (draA a0 a1 a2 a3 a4 a5 a6 a7 a8 a9 a10 a11 a12 a13) = (0, 3)) ∨ (0 ≤ a13 ∧ a13 < PS a9 a8) ∧ AF.fin (rdrA a0 a1 a2 a3 a4 a5 a6 a7 a8 a9 a10 a11 a12 a13) = true ∧ ∃ z, AF.val (draA a0 a1 a2 a3 a4 a5 a6 a7 a8 a9 a10 a11 a12 a13) = (z, 0) ∧ AF.val (rdrA a0 a1 a2 a3 a4 a5 a6 a7 a8 a9 a10 a11 a12 a13) = z := by
      rcases rv with ⟨hr, rv⟩ | ⟨hr, J, hJ, rv⟩
      · exact .inl ⟨hr, rv⟩
      · obtain ⟨zf, J', hJ', zv⟩ := rdr_val (a0 := a0) job hr.1 hr.2
        obtain rfl := hJ.uniq narr hJ'
        exact .inr ⟨hr, zf, _, rv, zv⟩
    clear rv
    rcases main with ⟨k, F, G, F', G', pv, qv, hk, hs⟩ | ⟨pv, qv⟩
    · have pvE : AF.val (dplA a0 a1 a2 a3 a4 a5 (fun i => a6 i) (fun i => a7 i) a8 (fun i => a9 i) (fun i => a10 i) (fun i => a11 i) (fun i => a12 i)) = _ := pv
      have qvE : AF.val (rdpA a0 a1 a2 a3 a4 a5 (fun i => a6 i) (fun i => a7 i) a8 (fun i => a9 i) (fun i => a10 i) (fun i => a11 i) (fun i => a12 i)) = _ := qv
      have hI := DlpI.mk rfl hk hs
      rcases reach with ⟨hr, rv⟩ | ⟨hr, zf, z, rv, zv⟩
      · have rvE : AF.val (draA a0 a1 a2 a3 a4 a5 (fun i => a6 i) (fun i => a7 i) a8 (fun i => a9 i) (fun i => a10 i) (fun i => a11 i) (fun i => a12 i) a13) = _ := rv
        simp only [DD.sat, Nat.zero_add, cmLss, cmLssF, cmLeq, cmLeqF, cmGtr, cmGtrF, cmGeq, cmGeqF, cmEql, cmEqlF, cmNeq, cmNeqF, decide_eq_true_eq, Bool.not_eq_true', Bool.not_eq_false', kvE, cvE, rvE, pvE, qvE, avE, es, dplw0, dplw1, dplw2, dplw3, rdpw0, rdpw1, rdpw2, rdpw3]
        repeat' (first
      | exact Nat.le_refl _
      | exact shape_ok fun i _ => rfl
      | assumption
      | trivial
      | (intro hx; first | (exfalso; omega) | skip)
      | apply And.intro)
      · have rvE : AF.val (draA a0 a1 a2 a3 a4 a5 (fun i => a6 i) (fun i => a7 i) a8 (fun i => a9 i) (fun i => a10 i) (fun i => a11 i) (fun i => a12 i) a13) = _ := rv
        have zvE : AF.val (rdrA a0 a1 a2 a3 a4 a5 (fun i => a6 i) (fun i => a7 i) a8 (fun i => a9 i) (fun i => a10 i) (fun i => a11 i) (fun i => a12 i) a13) = _ := zv
        simp only [DD.sat, Nat.zero_add, cmLss, cmLssF, cmLeq, cmLeqF, cmGtr, cmGtrF, cmGeq, cmGeqF, cmEql, cmEqlF, cmNeq, cmNeqF, decide_eq_true_eq, Bool.not_eq_true', Bool.not_eq_false', kvE, cvE, rvE, pvE, qvE, zvE, avE, es, dplw0, dplw1, dplw2, dplw3, rdpw0, rdpw1, rdpw2, rdpw3]
        repeat' (first
      | exact Nat.le_refl _
      | exact shape_ok fun i _ => rfl
      | assumption
      | trivial
      | (intro hx; first | (exfalso; omega) | skip)
      | apply And.intro)
    · have pvE : AF.val (dplA a0 a1 a2 a3 a4 a5 (fun i => a6 i) (fun i => a7 i) a8 (fun i => a9 i) (fun i => a10 i) (fun i => a11 i) (fun i => a12 i)) = _ := pv
      have qvE : AF.val (rdpA a0 a1 a2 a3 a4 a5 (fun i => a6 i) (fun i => a7 i) a8 (fun i => a9 i) (fun i => a10 i) (fun i => a11 i) (fun i => a12 i)) = _ := qv
      rcases reach with ⟨hr, rv⟩ | ⟨hr, zf, z, rv, zv⟩
      · have rvE : AF.val (draA a0 a1 a2 a3 a4 a5 (fun i => a6 i) (fun i => a7 i) a8 (fun i => a9 i) (fun i => a10 i) (fun i => a11 i) (fun i => a12 i) a13) = _ := rv
        simp only [DD.sat, Nat.zero_add, cmLss, cmLssF, cmLeq, cmLeqF, cmGtr, cmGtrF, cmGeq, cmGeqF, cmEql, cmEqlF, cmNeq, cmNeqF, decide_eq_true_eq, Bool.not_eq_true', Bool.not_eq_false', kvE, cvE, rvE, pvE, qvE, avE, es, dplw0, dplw1, dplw2, dplw3, rdpw0, rdpw1, rdpw2, rdpw3]
        repeat' (first
      | exact Nat.le_refl _
      | exact shape_ok fun i _ => rfl
      | assumption
      | trivial
      | (intro hx; first | (exfalso; omega) | skip)
      | apply And.intro)
      · have rvE : AF.val (draA a0 a1 a2 a3 a4 a5 (fun i => a6 i) (fun i => a7 i) a8 (fun i => a9 i) (fun i => a10 i) (fun i => a11 i) (fun i => a12 i) a13) = _ := rv
        have zvE : AF.val (rdrA a0 a1 a2 a3 a4 a5 (fun i => a6 i) (fun i => a7 i) a8 (fun i => a9 i) (fun i => a10 i) (fun i => a11 i) (fun i => a12 i) a13) = _ := zv
        simp only [DD.sat, Nat.zero_add, cmLss, cmLssF, cmLeq, cmLeqF, cmGtr, cmGtrF, cmGeq, cmGeqF, cmEql, cmEqlF, cmNeq, cmNeqF, decide_eq_true_eq, Bool.not_eq_true', Bool.not_eq_false', kvE, cvE, rvE, pvE, qvE, zvE, avE, es, dplw0, dplw1, dplw2, dplw3, rdpw0, rdpw1, rdpw2, rdpw3]
        repeat' (first
      | exact Nat.le_refl _
      | exact shape_ok fun i _ => rfl
      | assumption
      | trivial
      | (intro hx; first | (exfalso; omega) | skip)
      | apply And.intro)
theorem dlp_run (a0 : Bool) (a1 a2 a3 a4 : Int) (a5 : Nat) (a6 a7 : Nat → Int) (a8 : Nat) (a9 a10 a11 a12 : Nat → Int) (a13 : Int) (_ : -9223372036854775808 ≤ a1 ∧ a1 ≤ 9223372036854775807) (_ : -9223372036854775808 ≤ a2 ∧ a2 ≤ 9223372036854775807) (_ : -9223372036854775808 ≤ a3 ∧ a3 ≤ 9223372036854775807) (_ : -9223372036854775808 ≤ a4 ∧ a4 ≤ 9223372036854775807) (hn : a5 ≤ 9223372036854775807) (_ : ∀ i, -9223372036854775808 ≤ a6 i ∧ a6 i ≤ 9223372036854775807) (_ : ∀ i, -9223372036854775808 ≤ a7 i ∧ a7 i ≤ 9223372036854775807) (hm : a8 ≤ 9223372036854775807) (_ : ∀ i, -9223372036854775808 ≤ a9 i ∧ a9 i ≤ 9223372036854775807) (_ : ∀ i, -9223372036854775808 ≤ a10 i ∧ a10 i ≤ 9223372036854775807) (_ : ∀ i, -9223372036854775808 ≤ a11 i ∧ a11 i ≤ 9223372036854775807) (_ : ∀ i, -9223372036854775808 ≤ a12 i ∧ a12 i ≤ 9223372036854775807) (_ : -9223372036854775808 ≤ a13 ∧ a13 ≤ 9223372036854775807) :
    ∃ n v, AF.run (dlpA a0 a1 a2 a3 a4 a5 a6 a7 a8 a9 a10 a11 a12 a13) n = some v ∧ v = true := by
  refine AF.run_sat (E := fun v => v = true) (Inv := DlpI) (fun b => match b with | .n0 p0 p1 p2 p3 p4 p5 p6 p7 p8 => (p0 - p2).toNat) (fun b => rfl) (fun b h => ?_) (dlp_sat a0 a1 a2 a3 a4 a5 a6 a7 a8 a9 a10 a11 a12 a13)
  cases b with
  | n0 p0 p1 p2 p3 p4 p5 p6 p7 p8 =>
    obtain ⟨⟨rfl, rfl, rfl, hf, hs⟩, g0, g1⟩ := h
    show DD.sat _ _ (dlpD a0 a1 a2 a3 a4 a5 a6 a7 a8 a9 a10 a11 a12 a13 (.n0 _ _ p2 _ p4 p5 _ p7 p8))
    unfold dlpD
    by_cases hq : p2 < p6
    · have e1 : Ar.run .add .i64 p2 1 = p2 + 1 := arAdd (by omega)
      obtain ⟨s1, s2⟩ := hs p2.toNat (by omega)
      simp only [DD.sat, Nat.zero_add, cmLss, cmLssF, cmLeq, cmLeqF, cmGtr, cmGtrF, cmGeq, cmGeqF, cmEql, cmEqlF, cmNeq, cmNeqF, decide_eq_true_eq, Bool.not_eq_true', Bool.not_eq_false', e1, s1, s2]
      exact ⟨fun _ => ⟨g0, hq, by omega, g0, hq, by omega, fun _ => ⟨fun _ => ⟨⟨⟨rfl, rfl, rfl, hf, hs⟩, by omega, by omega⟩, by omega⟩, fun hx => absurd rfl hx⟩, fun hx => absurd rfl hx⟩, fun hx => trivial⟩
    · simp only [DD.sat, Nat.zero_add, cmLss, cmLssF, cmLeq, cmLeqF, cmGtr, cmGtrF, cmGeq, cmGeqF, cmEql, cmEqlF, cmNeq, cmNeqF, decide_eq_true_eq, Bool.not_eq_true', Bool.not_eq_false']
      exact ⟨fun hx => by omega, fun hx => trivial⟩
end Go.Proofs.Ythagjhadjpangaa.Cx

/- ARGUMENTS THAT ARE SLICES: opened as lists; the memory in which they lie as blocks that are read alone; a law's contract as its statement's walk. -/
namespace Go.Proofs.Ythagjhadjpangaa.Cx
set_option linter.unusedSimpArgs false
set_option linter.unusedVariables false
open Go Go.RowKit Go.ChangeShapes Go.WideShapes Go.Deep Go.Proofs.Ythagjhadjpangaa
/-! ## Such slices as blocks -/
section
variable {P : Program} {ρ : Env}
/-- Where a slice's rows lie. -/
noncomputable def locOf (w : World) (v : Value) (z : Nat) : Option Loc :=
  match v with
  | .slice (some a) (_ + 1) _ => match w.heap[a.block]? with
    | some (.cells c _ _) => some ⟨a.block, a.off, c.size, z⟩
    | _ => none
  | _ => none
theorem rows_rel {α : Type} {en : α → List Value} {ec : α → List CV} {d : α} (he : ∀ σ x, VRl ρ σ (ec x) (en x)) (σ : Mp) : ∀ (xs : List α) (n : Nat), n ≤ xs.length → VRl ρ σ (flatR (fun j => ec (xs.getD j d)) n) ((xs.take n).flatMap en)
  | xs, 0, _ => by simpa [flatR] using VRl.nil
  | xs, n + 1, h => by
    have ih := rows_rel (d := d) he σ xs n (by omega)
    rw [flatR, List.take_add_one, List.flatMap_append]
    refine ih.append ?_
    have hn : n < xs.length := by omega
    rw [List.getElem?_eq_getElem hn, List.getD_eq_getElem?_getD, List.getElem?_eq_getElem hn]
    simpa using he σ xs[n]
theorem SlR.rel {α : Type} {en : α → List Value} {ec : α → List CV} {d : α} {z : Nat} {w : World} {v : Value} {xs : List α} {σ : Mp} {b : Nat} (h : SlR en z w v xs) (hz : ∀ x, (en x).length = z) (he : ∀ σ x, VRl ρ σ (ec x) (en x))
    (hk : ∀ j, (ec (xs.getD j d)).length = z ∧ (ec (xs.getD j d)).all CV.flat = true) (hσ : σ b = locOf w v z) :
    VR ρ σ (.sla b z 0 xs.length) v ∧ ArgAt ρ w ⟨.arg xs.length z (fun j => ec (xs.getD j d)) hk, z, true, none⟩ (σ b) := by
  obtain ⟨a, cap, rfl, hcap, _, hx⟩ := h
  have hcl : Blk.cells ⟨.arg xs.length z (fun j => ec (xs.getD j d)) hk, z, true, none⟩ = flatR (fun j => ec (xs.getD j d)) xs.length := rfl
  have hlen := flatR_length (fun j => (hk j).1) xs.length
  rcases hx with rfl | ⟨bl, off, c, t, p, rfl, hh, hsz, hrow⟩
  · refine ⟨.sla0 _ _, rfl, rfl, rfl, fun l hl => ?_⟩
    rw [hσ] at hl
    simp [locOf] at hl
  · cases xs with
    | nil =>
      refine ⟨.sla0 _ _, rfl, rfl, rfl, fun l hl => ?_⟩
      rw [hσ] at hl
      simp [locOf] at hl
    | cons x xs =>
      have hlo : locOf w (.slice (some ⟨bl, off, none⟩) (x :: xs).length cap) z = some ⟨bl, off, c.size, z⟩ := by
        simp [locOf, hh]
      rw [hlo] at hσ
      refine ⟨?_, rfl, rfl, rfl, fun l hl => ?_⟩
      · have := VR.sla (ρ := ρ) (σ := σ) (b := b) (z := z) (o := 0) (n := (x :: xs).length) (c' := cap) hσ hcap
        simpa using this
      · rw [hσ] at hl
        obtain rfl := Option.some.inj hl
        refine ⟨c, t, p, hh, rfl, rfl, by rw [hcl, hlen]; exact hsz, fun τ => ?_⟩
        rw [hcl, hlen, hrow]
        have := rows_rel (ρ := ρ) (d := d) he τ (x :: xs) (x :: xs).length (Nat.le_refl _)
        rwa [List.take_of_length_le (Nat.le_refl _)] at this
/-- A law's contract, as its statement's walk. -/
theorem Ctr.law {f : Nat} {args : List CV} {h0 h1 : Tr Blk} {base n1 : Nat} {e : BE} {w : World} {σ : Mp} {args' : Array Value} (K : Ctr P ρ f args h0 base [] (.bool e) h1 n1) (he : e.den ρ = true) (ha : VRl ρ σ args args'.toList) (hH : HR ρ σ (curOf h0 base) w) (hN : ∀ b, base ≤ b → σ b = none) :
    Calls P f args' w fun e w' => e = .returned (.bool true) ∧ Below w.heap.size w w' := by
  refine ((K.run 0 σ w args' ha hH hN).calls (fun k d h => by cases h)).mono ?_
  rintro e' w' ⟨v, rfl, σ', h1, h2, h3, h4, h5⟩
  cases h2
  refine ⟨by rw [he], h4.os, h4.tape, h4.output, h4.size, fun k hk => h4.block k hk (fun b hb l hl => ?_)⟩
  rcases hb with hb | hb
  · cases hb
  · rw [hN b hb] at hl; cases hl
end
end Go.Proofs.Ythagjhadjpangaa.Cx

/- ARGUMENTS OF LAWS, OPENED BY THEIR TYPES: integers, bools, structs, arrays, and slices of rows of integers and bools (a table each); the memory in which these lie. -/
namespace Go.Proofs.Ythagjhadjpangaa.Cx
set_option linter.unusedSimpArgs false
set_option linter.unusedVariables false
open Go Go.RowKit Go.ChangeShapes Go.WideShapes Go.Deep Go.Proofs.Ythagjhadjpangaa
/-! ## What the cells of a type are -/
inductive CK where
  | int (k : IntKind)
  | bool
  | tab (ks : List (Option IntKind))
def flatCK : List CK → Option (List (Option IntKind))
  | [] => some []
  | .int k :: l => match flatCK l with | some m => some (some k :: m) | none => none
  | .bool :: l => match flatCK l with | some m => some (none :: m) | none => none
  | .tab _ :: _ => none
def ckFs (P : Program) (f : TypeId → Option (List CK)) : Nat → List Field → Option (List CK)
  | _, [] => some []
  | off, fd :: l => match f fd.type with
    | some ks => bif Nat.beq fd.offset off && Nat.beq (P.cellsOf fd.type) ks.length then (match ckFs P f (off + ks.length) l with | some m => some (ks ++ m) | none => none) else none
    | none => none
def repL {α : Type} : Nat → List α → List α
  | 0, _ => []
  | n + 1, l => repL n l ++ l
def ckOf (P : Program) : Nat → TypeId → Option (List CK)
  | 0, _ => none
  | d + 1, t => match P.underlying t with
    | some (.int k) => some [.int k]
    | some .bool => some [.bool]
    | some (.struct fs) => match ckFs P (ckOf P d) 0 fs.toList with
      | some ks => bif Nat.beq (P.cellsOf t) ks.length then some ks else none
      | none => none
    | some (.array n e) => match ckOf P d e with
      | some ks => bif Nat.beq (P.cellsOf e) ks.length && Nat.beq (P.cellsOf t) (n * ks.length) then some (repL n ks) else none
      | none => none
    | some (.slice e) => match ckOf P d e with
      | some ks => match flatCK ks with
        | some l => bif Nat.beq (P.cellsOf e) l.length && Nat.blt 0 l.length then some [.tab l] else none
        | none => none
      | none => none
    | _ => none
/-! ## Rows -/
/-- The cells of a row: integers and bools, by their places. -/
structure RowV where
  c : Nat → Int
  g : Nat → Bool
def RowV.zero : RowV := ⟨fun _ => 0, fun _ => false⟩
def enV (r : RowV) : List (Option IntKind) → Nat → List Value
  | [], _ => []
  | some k :: ks, j => .int k (r.c j) :: enV r ks (j + 1)
  | none :: ks, j => .bool (r.g j) :: enV r ks (j + 1)
def okV (ks : List (Option IntKind)) (r : RowV) : Prop := ∀ j k, ks[j]? = some (some k) → (Lit.int k (r.c j)).wf = true
theorem enV_length (r : RowV) : ∀ (ks : List (Option IntKind)) (j : Nat), (enV r ks j).length = ks.length
  | [], _ => rfl
  | some k :: ks, j => congrArg Nat.succ (enV_length r ks (j + 1))
  | none :: ks, j => congrArg Nat.succ (enV_length r ks (j + 1))
/-- The cells of an argument: such, and slices of rows. -/
structure RowW where
  c : Nat → Int
  g : Nat → Bool
  s : Nat → Value
  t : Nat → List RowV
def enW (r : RowW) : List CK → Nat → List Value
  | [], _ => []
  | .int k :: ks, j => .int k (r.c j) :: enW r ks (j + 1)
  | .bool :: ks, j => .bool (r.g j) :: enW r ks (j + 1)
  | .tab _ :: ks, j => r.s j :: enW r ks (j + 1)
/-- A slice of such rows. -/
def SlT (ks : List (Option IntKind)) (w : World) (v : Value) (xs : List RowV) : Prop := SlR (fun r => enV r ks 0) ks.length w v xs ∧ ∀ x ∈ xs, okV ks x
def cellW (w : World) : CK → Value → Prop
  | .int k, v => ∃ z, v = .int k z ∧ (Lit.int k z).wf = true
  | .bool, v => ∃ b, v = .bool b
  | .tab ks, v => ∃ xs, SlT ks w v xs
inductive Mt (w : World) : List CK → List Value → Prop
  | nil : Mt w [] []
  | cons {k : CK} {v : Value} {ks : List CK} {vs : List Value} (h : cellW w k v) (t : Mt w ks vs) : Mt w (k :: ks) (v :: vs)
theorem Mt.append {w : World} {a b : List CK} {x y : List Value} (h : Mt w a x) (h' : Mt w b y) : Mt w (a ++ b) (x ++ y) := by
  induction h with
  | nil => exact h'
  | cons h _ ih => exact .cons h ih
theorem Mt.length {w : World} {a : List CK} {x : List Value} (h : Mt w a x) : x.length = a.length := by
  induction h with
  | nil => rfl
  | cons h _ ih => simp [ih]
/-- What the cells' places hold. -/
noncomputable def rowW (w : World) (ks : List CK) (vs : List Value) : RowW :=
  ⟨fun j => match vs[j]? with | some (.int _ z) => z | _ => 0, fun j => match vs[j]? with | some (.bool b) => b | _ => false, fun j => vs.getD j (.bool false),
   fun j => match ks[j]? with | some (.tab l) => @dite _ (∃ xs, SlT l w (vs.getD j (.bool false)) xs) (Classical.propDecidable _) (fun h => Classical.choose h) (fun _ => []) | _ => []⟩
def okW (w : World) (ks : List CK) (r : RowW) : Prop := (∀ j k, ks[j]? = some (.int k) → (Lit.int k (r.c j)).wf = true) ∧ ∀ j l, ks[j]? = some (.tab l) → SlT l w (r.s j) (r.t j)
theorem Mt.get {w : World} {ks : List CK} {vs : List Value} (h : Mt w ks vs) : ∀ {j : Nat} {k : CK}, ks[j]? = some k → ∃ v, vs[j]? = some v ∧ cellW w k v := by
  induction h with
  | nil => intro j k h; simp at h
  | cons h _ ih =>
    intro j k hj
    cases j with
    | zero => simp at hj; subst hj; exact ⟨_, rfl, h⟩
    | succ j => simpa using ih (by simpa using hj)
theorem Mt.row {w : World} {ks : List CK} {vs : List Value} (h : Mt w ks vs) : vs = enW (rowW w ks vs) ks 0 ∧ okW w ks (rowW w ks vs) := by
  have key : ∀ (n : Nat) (pre post : List CK) (a b : List Value), ks = pre ++ post → vs = a ++ b → a.length = pre.length → b.length = post.length → post.length = n → b = enW (rowW w ks vs) post pre.length := by
    intro n
    induction n with
    | zero =>
      intro pre post a b h1 h2 h3 h4 h5
      cases post with
      | nil => cases b with
        | nil => rfl
        | cons x b => simp at h4
      | cons x l => simp at h5
    | succ n ih =>
      intro pre post a b h1 h2 h3 h4 h5
      cases post with
      | nil => simp at h5
      | cons k post =>
        cases b with
        | nil => simp at h4
        | cons v b =>
          have hk : ks[pre.length]? = some k := by rw [h1]; simp
          have hv : vs[pre.length]? = some v := by rw [h2, ← h3]; simp
          obtain ⟨v', hv', hc⟩ := h.get hk
          rw [hv] at hv'
          obtain rfl := Option.some.inj hv'
          have ih' := ih (pre ++ [k]) post (a ++ [v]) b (by simp [h1]) (by simp [h2]) (by simp [h3]) (by simpa using h4) (by simpa using h5)
          rw [List.length_append, List.length_singleton] at ih'
          have hd : vs.getD pre.length (.bool false) = v := by rw [List.getD_eq_getElem?_getD, hv]; rfl
          cases k with
          | int k =>
            obtain ⟨z, rfl, _⟩ := hc
            rw [enW, ← ih']
            congr 1
            simp [rowW, hv]
          | bool =>
            obtain ⟨z, rfl⟩ := hc
            rw [enW, ← ih']
            congr 1
            simp [rowW, hv]
          | tab l =>
            rw [enW, ← ih']
            congr 1
            exact hd.symm
  refine ⟨key ks.length [] ks [] vs rfl rfl rfl h.length rfl, fun j k hk => ?_, fun j l hl => ?_⟩
  · obtain ⟨v, hv, z, rfl, hz⟩ := h.get hk
    simpa [rowW, hv] using hz
  · obtain ⟨v, hv, xs, hx⟩ := h.get hl
    have hd : vs.getD j (.bool false) = v := by rw [List.getD_eq_getElem?_getD, hv]; rfl
    have hex : ∃ xs, SlT l w (vs.getD j (.bool false)) xs := ⟨xs, by rw [hd]; exact hx⟩
    have e : (rowW w ks vs).t j = Classical.choose hex := by
      simp only [rowW, hl]
      rw [dif_pos hex]
    rw [e]
    exact Classical.choose_spec hex
/-- Cells of a row, as a row. -/
theorem Mt.flat {w : World} {cks : List CK} {vs : List Value} (h : Mt w cks vs) : ∀ {ks : List (Option IntKind)}, flatCK cks = some ks → ∃ r : RowV, vs = enV r ks 0 ∧ okV ks r := by
  have key : ∀ {cks : List CK} {vs : List Value}, Mt w cks vs → ∀ {ks : List (Option IntKind)}, flatCK cks = some ks → ∀ (r : RowV) (j : Nat), ∃ r' : RowV, vs = enV r' ks j ∧ (∀ i k, ks[i]? = some (some k) → (Lit.int k (r'.c (j + i))).wf = true) ∧ ∀ i, i < j → r'.c i = r.c i ∧ r'.g i = r.g i := by
    intro cks vs h
    induction h with
    | nil =>
      intro ks hk r j
      simp only [flatCK] at hk
      cases hk
      exact ⟨r, rfl, fun i k h => by simp at h, fun i _ => ⟨rfl, rfl⟩⟩
    | @cons k v cks vs hc _ ih =>
      intro ks hk r j
      cases k with
      | int k =>
        simp only [flatCK] at hk
        split at hk
        · rename_i m hm
          cases hk
          obtain ⟨z, rfl, hz⟩ := hc
          obtain ⟨r', h1, h2, h3⟩ := ih hm ⟨fun i => if i = j then z else r.c i, r.g⟩ (j + 1)
          have hj := h3 j (by omega)
          simp only [if_true] at hj
          refine ⟨r', by rw [enV, hj.1, ← h1], fun i k' hk' => ?_, fun i hi => ?_⟩
          · cases i with
            | zero => simp at hk'; subst hk'; rw [Nat.add_zero, hj.1]; exact hz
            | succ i => have := h2 i k' (by simpa using hk'); rwa [show j + 1 + i = j + (i + 1) by omega] at this
          · have := h3 i (by omega)
            simp only [if_neg (show i ≠ j by omega)] at this
            exact this
        · cases hk
      | bool =>
        simp only [flatCK] at hk
        split at hk
        · rename_i m hm
          cases hk
          obtain ⟨z, rfl⟩ := hc
          obtain ⟨r', h1, h2, h3⟩ := ih hm ⟨r.c, fun i => if i = j then z else r.g i⟩ (j + 1)
          have hj := h3 j (by omega)
          simp only [if_true] at hj
          refine ⟨r', by rw [enV, hj.2, ← h1], fun i k' hk' => ?_, fun i hi => ?_⟩
          · cases i with
            | zero => simp at hk'
            | succ i => have := h2 i k' (by simpa using hk'); rwa [show j + 1 + i = j + (i + 1) by omega] at this
          · have := h3 i (by omega)
            simp only [if_neg (show i ≠ j by omega)] at this
            exact this
        · cases hk
      | tab l => simp [flatCK] at hk
  intro ks hk
  obtain ⟨r', h1, h2, _⟩ := key h hk RowV.zero 0
  exact ⟨r', h1, fun j k hj => by have := h2 j k hj; rwa [Nat.zero_add] at this⟩
section
variable {H : Type} {enc : TypeId × Value → H} {P : Program} {w : World} {base : Nat} {spare : Nat → Bool} {held : Bool}
theorem seg_add {α : Type} (cs : List α) (o a b : Nat) : (cs.drop o).take (a + b) = (cs.drop o).take a ++ (cs.drop (o + a)).take b := by
  rw [List.take_add, List.drop_drop]
theorem ckFs_ok {f : TypeId → Option (List CK)} {cs : List Value} (hf : ∀ t ks, f t = some ks → ∀ n vs y, DataW.trod enc P w base spare held n t vs = some y → Mt w ks vs) :
    ∀ (l : List Field) (off : Nat) (ks : List CK), ckFs P f off l = some ks → (∀ (i : Nat) (fd : Field), l[i]? = some fd → ∃ n y, DataW.trod enc P w base spare held n fd.type ((cs.drop fd.offset).take (P.cellsOf fd.type)) = some y) → Mt w ks ((cs.drop off).take ks.length)
  | [], off, ks, h, _ => by
    simp only [ckFs] at h
    cases h
    simpa using Mt.nil
  | fd :: l, off, ks, h, ht => by
    simp only [ckFs] at h
    split at h
    · rename_i k1 hk1
      cases hc : (Nat.beq fd.offset off && Nat.beq (P.cellsOf fd.type) k1.length) with
      | false => rw [hc, cond_false] at h; cases h
      | true =>
        rw [hc, cond_true] at h
        simp only [Bool.and_eq_true] at hc
        have e1 := Nat.eq_of_beq_eq_true hc.1
        have e2 := Nat.eq_of_beq_eq_true hc.2
        split at h
        · rename_i m hm
          cases h
          obtain ⟨n, y, hy⟩ := ht 0 fd rfl
          rw [e1, e2] at hy
          have h1 := hf _ _ hk1 _ _ _ hy
          have h2 := ckFs_ok hf l (off + k1.length) m hm fun i fd' hi => ht (i + 1) fd' (by simpa using hi)
          rw [List.length_append, seg_add]
          exact h1.append h2
        · cases h
    · cases h
theorem repL_length {α : Type} (l : List α) : ∀ n, (repL n l).length = n * l.length
  | 0 => by simp [repL]
  | n + 1 => by rw [repL, List.length_append, repL_length l n, Nat.succ_mul]
theorem repL_ok {cs : List Value} {ks : List CK} {z : Nat} (hz : ks.length = z) : ∀ (n : Nat), (∀ i, i < n → Mt w ks ((cs.drop (i * z)).take z)) → Mt w (repL n ks) (cs.take (n * z))
  | 0, _ => by simpa [repL] using Mt.nil
  | n + 1, h => by
    have ih := repL_ok hz n fun i hi => h i (by omega)
    rw [repL, Nat.succ_mul, List.take_add]
    exact ih.append (h n (by omega))
theorem ckOf_ok : ∀ (d : Nat) (t : TypeId) (ks : List CK), ckOf P d t = some ks → ∀ n cs y, DataW.trod enc P w base spare held n t cs = some y → Mt w ks cs
  | 0, _, _, h => by simp [ckOf] at h
  | d + 1, t, ks, h => by
    intro n cs y hy
    unfold ckOf at h
    split at h
    · rename_i k hk
      cases h
      obtain ⟨z, rfl, _, hw⟩ := DataW.trod_int hk hy
      exact .cons ⟨z, rfl, hw⟩ .nil
    · rename_i hk
      cases h
      obtain ⟨b, rfl, _⟩ := DataW.trod_bool hk hy
      exact .cons ⟨b, rfl⟩ .nil
    · rename_i fs hk
      split at h
      · rename_i l hl
        cases hc : Nat.beq (P.cellsOf t) l.length with
        | false => rw [hc, cond_false] at h; cases h
        | true =>
          rw [hc, cond_true] at h
          cases h
          have hlen := Nat.eq_of_beq_eq_true hc
          obtain ⟨xs, m, _, _, hcl, hxl, hg⟩ := DataW.trod_struct hk hy
          have := ckFs_ok (ckOf_ok d) fs.toList 0 _ hl (cs := cs) fun i fd hi => by
            have hi' : fs[i]? = some fd := by simpa using hi
            have hlt : i < xs.length := by rw [hxl]; exact (Array.getElem?_eq_some_iff.1 hi').1
            exact ⟨m, xs[i], by rw [hg i fd hi']; exact List.getElem?_eq_getElem hlt⟩
          rwa [List.drop_zero, List.take_of_length_le (by omega)] at this
      · cases h
    · rename_i m e hk
      split at h
      · rename_i l hl
        cases hc : (Nat.beq (P.cellsOf e) l.length && Nat.beq (P.cellsOf t) (m * l.length)) with
        | false => rw [hc, cond_false] at h; cases h
        | true =>
          rw [hc, cond_true] at h
          cases h
          simp only [Bool.and_eq_true] at hc
          have e1 := Nat.eq_of_beq_eq_true hc.1
          have e2 := Nat.eq_of_beq_eq_true hc.2
          obtain ⟨xs, q, _, _, hcl, hxl, hg⟩ := DataW.trod_array hk hy
          have := repL_ok (w := w) (cs := cs) (ks := l) rfl m fun i hi => by
            have h1 := hg i hi
            rw [e1, List.getElem?_eq_getElem (by omega)] at h1
            exact ckOf_ok d _ _ hl _ _ _ h1
          rwa [List.take_of_length_le (by omega)] at this
      · cases h
    · rename_i e hk
      split at h
      · rename_i ck hck
        split at h
        · rename_i l hl
          cases hc : (Nat.beq (P.cellsOf e) l.length && Nat.blt 0 l.length) with
          | false => rw [hc, cond_false] at h; cases h
          | true =>
            rw [hc, cond_true] at h
            cases h
            simp only [Bool.and_eq_true] at hc
            obtain ⟨v, xs, rfl, h1, h2⟩ := sl_open (en := fun r => enV r l 0) (ok := okV l) (z := l.length) (Nat.lt_of_succ_le (Nat.le_of_ble_eq_true hc.2)) (fun x => enV_length _ _ _) hk (Nat.eq_of_beq_eq_true hc.1)
              (fun n cs y _ hy => (ckOf_ok d _ _ hck _ _ _ hy).flat hl) hy
            exact .cons ⟨xs, h1, h2⟩ .nil
        · cases h
      · cases h
    · cases h
/-- An argument, opened. -/
theorem open_agg {t : TypeId} {r : Reach} {b0 : Nat} {v : Value} {d : DataW H} {p : List MemPlace} {dp : Nat} {ks : List CK} (hk : ckOf P dp t = some ks) (hs : (∃ fs, P.underlying t = some (.struct fs)) ∨ ∃ n e, P.underlying t = some (.array n e))
    (hval : Value.okWide P w r b0 t v) (h : DataW.Trod enc P w base spare held t v d p) : ∃ x : RowW, v = .agg (enW x ks 0).toArray ∧ okW w ks x := by
  obtain ⟨cs, rfl⟩ : ∃ cs, v = .agg cs := by
    rcases hs with ⟨fs, hs⟩ | ⟨n, e, hs⟩
    · obtain ⟨cs, h1, _⟩ := okWide_struct hs hval; exact ⟨cs, h1⟩
    · obtain ⟨cs, h1, _⟩ := okWide_arr hs hval; exact ⟨cs, h1⟩
  obtain ⟨fuel, hf⟩ := h
  have hm := ckOf_ok dp t ks hk _ _ _ hf
  obtain ⟨h1, h2⟩ := hm.row
  refine ⟨_, ?_, h2⟩
  rw [← h1]
  simp [Value.cells]
theorem open_slT {t : TypeId} {r : Reach} {b0 : Nat} {v : Value} {d : DataW H} {p : List MemPlace} {dp : Nat} {l : List (Option IntKind)} {e : TypeId} (hk : ckOf P dp t = some [.tab l]) (hs : P.underlying t = some (.slice e))
    (hval : Value.okWide P w r b0 t v) (h : DataW.Trod enc P w base spare held t v d p) : ∃ xs, SlT l w v xs := by
  obtain ⟨a, len, cap, rfl⟩ := okWide_slice hs hval
  obtain ⟨fuel, hf⟩ := h
  have hm := ckOf_ok dp t _ hk _ _ _ hf
  have e : (Value.slice a len cap).cells.toList = [Value.slice a len cap] := rfl
  rw [e] at hm
  cases hm with
  | cons h _ => exact h
end
/-! ## Slices as tables -/
def tabV (xs : List RowV) : Tab := ⟨xs.length, fun j i => (xs.getD i RowV.zero).c j, fun j i => (xs.getD i RowV.zero).g j⟩
theorem rowCs_sl {c c' : Nat → Nat → Int} {g g' : Nat → Nat → Bool} {i i' : Nat} (hc : ∀ j, c j i = c' j i') (hg : ∀ j, g j i = g' j i') : ∀ (ks : List (Option IntKind)) (j : Nat), rowCs c g i ks j = rowCs c' g' i' ks j
  | [], _ => rfl
  | some k :: ks, j => by rw [rowCs, rowCs, hc j, rowCs_sl hc hg ks]
  | none :: ks, j => by rw [rowCs, rowCs, hg j, rowCs_sl hc hg ks]
theorem enV_rel {ρ : Env} {σ : Mp} (r : RowV) : ∀ (ks : List (Option IntKind)) (j : Nat), VRl ρ σ (rowCs (fun j _ => r.c j) (fun j _ => r.g j) 0 ks j) (enV r ks j)
  | [], _ => .nil
  | some k :: ks, j => .cons (.int k (.x (r.c j))) (enV_rel r ks (j + 1))
  | none :: ks, j => .cons (.bool (.x (r.g j))) (enV_rel r ks (j + 1))
theorem ArgAt.rows_eq {ρ : Env} {w : World} {n z : Nat} {f g : Nat → List CV} {hf : ∀ j, (f j).length = z ∧ (f j).all CV.flat = true} {hg : ∀ j, (g j).length = z ∧ (g j).all CV.flat = true} {lo : Option Loc} (e : f = g) (h : ArgAt ρ w ⟨.arg n z f hf, z, true, none⟩ lo) : ArgAt ρ w ⟨.arg n z g hg, z, true, none⟩ lo := by
  subst e; exact h
structure SlV where
  v : Value
  ks : List (Option IntKind)
  xs : List RowV
noncomputable def sigV (w : World) (S : List SlV) : Mp := fun b => match S[b]? with | some s => locOf w s.v s.ks.length | none => none
def heapV : Nat → List SlV → List (Nat × Blk)
  | _, [] => []
  | i, s :: l => (i, tabB s.ks (tabV s.xs)) :: heapV (i + 1) l
theorem sigV_none {w : World} {S : List SlV} {b : Nat} (h : S.length ≤ b) : sigV w S b = none := by
  unfold sigV; rw [List.getElem?_eq_none h]
theorem SlT.both {ρ : Env} {w : World} {S : List SlV} {b : Nat} {s : SlV} (hb : S[b]? = some s) (h : SlT s.ks w s.v s.xs) : VR ρ (sigV w S) (.sla b s.ks.length 0 s.xs.length) s.v ∧ ArgAt ρ w (tabB s.ks (tabV s.xs)) (sigV w S b) := by
  obtain ⟨h1, h2⟩ := SlR.rel (ρ := ρ) (σ := sigV w S) (b := b) (ec := fun r => rowCs (fun j _ => r.c j) (fun j _ => r.g j) 0 s.ks 0) (d := RowV.zero) h.1 (fun x => enV_length _ _ _) (fun σ x => enV_rel x s.ks 0) (fun j => rowCs_ok _ _ _ _ _) (by unfold sigV; rw [hb])
  have e : (fun j => rowCs (fun j' _ => (s.xs.getD j RowV.zero).c j') (fun j' _ => (s.xs.getD j RowV.zero).g j') 0 s.ks 0) = fun i => rowCs (tabV s.xs).c (tabV s.xs).g i s.ks 0 := funext fun i => rowCs_sl (c := fun j' _ => (s.xs.getD i RowV.zero).c j') (g := fun j' _ => (s.xs.getD i RowV.zero).g j') (fun _ => rfl) (fun _ => rfl) _ _
  have h3 := ArgAt.rows_eq (hg := fun i => rowCs_ok (tabV s.xs).c (tabV s.xs).g i s.ks 0) e h2
  exact ⟨h1, h3⟩
theorem SlT.rel {ρ : Env} {w : World} {S : List SlV} (b : Nat) {s : SlV} (hb : S[b]? = some s) (h : SlT s.ks w s.v s.xs) : VR ρ (sigV w S) (.sla b s.ks.length 0 s.xs.length) s.v := (h.both hb).1
theorem SlT.len {ks : List (Option IntKind)} {w : World} {v : Value} {xs : List RowV} (h : SlT ks w v xs) : xs.length ≤ 9223372036854775807 := by
  obtain ⟨⟨a, cap, _, _, hl, _⟩, _⟩ := h
  exact hl
theorem SlT.wf {ks : List (Option IntKind)} {w : World} {v : Value} {xs : List RowV} (h : SlT ks w v xs) (j : Nat) (k : IntKind) (hk : ks[j]? = some (some k)) (h0 : (Lit.int k 0).wf = true) (i : Nat) : (Lit.int k ((tabV xs).c j i)).wf = true := by
  show (Lit.int k ((xs.getD i RowV.zero).c j)).wf = true
  by_cases hi : i < xs.length
  · rw [List.getD_eq_getElem?_getD, List.getElem?_eq_getElem hi]
    exact h.2 _ (List.getElem_mem hi) j k hk
  · rw [List.getD_eq_getElem?_getD, List.getElem?_eq_none (by omega)]
    exact h0
theorem heapV_get {ρ : Env} {w : World} : ∀ (l : List SlV) (i : Nat) (S : List SlV), (∀ j s, l[j]? = some s → S[i + j]? = some s) → (∀ s ∈ l, SlT s.ks w s.v s.xs) → ∀ b k, (mkH (heapV i l)).get b = some k → ArgAt ρ w k (sigV w S b)
  | [], i, S, _, _, b, k, h => by
    simp only [heapV, mkH] at h
    cases h
  | s :: l, i, S, hS, hT, b, k, h => by
    have h : ((mkH (heapV (i + 1) l)).set i (tabB s.ks (tabV s.xs))).get b = some k := h
    rw [Tr.get_set] at h
    split at h
    · rename_i hb
      cases h
      have := hS 0 s rfl
      rw [Nat.add_zero] at this
      rw [hb]
      exact ((hT s (by simp)).both this).2
    · exact heapV_get l (i + 1) S (fun j s' hj => by rw [show i + 1 + j = i + (j + 1) by omega]; exact hS (j + 1) s' (by simpa using hj)) (fun s' hs => hT s' (by simp [hs])) b k h
theorem argsV {ρ : Env} {w : World} (S : List SlV) (base : Nat) (hS : ∀ s ∈ S, SlT s.ks w s.v s.xs) (hL : Laid w) : HR ρ (sigV w S) (curOf (mkH (heapV 0 S)) base) w :=
  HR.ofArgs hL fun i k _ hk => heapV_get S 0 S (fun j s h => by rw [Nat.zero_add]; exact h) hS i k hk
end Go.Proofs.Ythagjhadjpangaa.Cx

/- DiePlans holds, for all inputs: by its automaton. Made by tools/cxlaws.py. -/
namespace Go.Proofs.Ythagjhadjpangaa
set_option linter.unusedVariables false
set_option linter.unusedSimpArgs false
open Go.ChangeShapes Go.WideShapes Go.ChangeAt Go.RowKit
open Cx (Env IE BE DT KnownB)
set_option maxRecDepth 100000 in
theorem dplans_open0 {H : Type} {enc : TypeId × Value → H} {w : World} {base : Nat} {spare : Nat → Bool} {held : Bool} {r : Reach} {b0 : Nat} {vv : Value} {d : DataW H} {p : List MemPlace} (hval : Value.okWide Try.prog w r b0 26 vv) (h : DataW.Trod enc Try.prog w base spare held 26 vv d p) :
    ∃ y0 : Cx.RowW, vv = .agg #[.bool (y0.g 0), .int .i64 (y0.c 1), .int .i64 (y0.c 2), .int .i64 (y0.c 3), .int .i64 (y0.c 4), y0.s 5] ∧ Cx.okW w [.bool, .int .i64, .int .i64, .int .i64, .int .i64, .tab [some .i64, some .i64]] y0 :=
  Cx.open_agg (ks := [.bool, .int .i64, .int .i64, .int .i64, .int .i64, .tab [some .i64, some .i64]]) (dp := 12) (by kernel_rfl) (.inl ⟨_, Try.underlying26⟩) hval h
theorem dplans_walk (y0 : Cx.RowW) (v1 : Value) (y1 : List Cx.RowV) (y2 : Int) (w : World) (g0 : Cx.okW w [.bool, .int .i64, .int .i64, .int .i64, .int .i64, .tab [some .i64, some .i64]] y0) (g1 : Cx.SlT [some .i64, some .i64, some .i64, some .i64] w v1 y1) (g2 : (Lit.int .i64 y2).wf = true) :
    Calls Try.prog 4 #[.agg #[.bool (y0.g 0), .int .i64 (y0.c 1), .int .i64 (y0.c 2), .int .i64 (y0.c 3), .int .i64 (y0.c 4), y0.s 5], v1, .int .i64 y2] w fun e w' => e = .returned (.bool true) ∧ Below w.heap.size w w' := by
  have hLw : Cx.Laid w := fun _ h => by cases h
  obtain ⟨n, v, hv, hp⟩ := Cx.dlp_run (y0.g 0) (y0.c 1) (y0.c 2) (y0.c 3) (y0.c 4) (Cx.tabV (y0.t 5)).n ((Cx.tabV (y0.t 5)).c 0) ((Cx.tabV (y0.t 5)).c 1) (Cx.tabV y1).n ((Cx.tabV y1).c 0) ((Cx.tabV y1).c 1) ((Cx.tabV y1).c 2) ((Cx.tabV y1).c 3) y2 (rng_i64 (g0.1 1 .i64 rfl)) (rng_i64 (g0.1 2 .i64 rfl)) (rng_i64 (g0.1 3 .i64 rfl)) (rng_i64 (g0.1 4 .i64 rfl)) (Cx.SlT.len (g0.2 5 _ rfl)) (fun i => rng_i64 (Cx.SlT.wf (g0.2 5 _ rfl) 0 .i64 rfl rfl i)) (fun i => rng_i64 (Cx.SlT.wf (g0.2 5 _ rfl) 1 .i64 rfl rfl i)) (Cx.SlT.len g1) (fun i => rng_i64 (Cx.SlT.wf g1 0 .i64 rfl rfl i)) (fun i => rng_i64 (Cx.SlT.wf g1 1 .i64 rfl rfl i)) (fun i => rng_i64 (Cx.SlT.wf g1 2 .i64 rfl rfl i)) (fun i => rng_i64 (Cx.SlT.wf g1 3 .i64 rfl rfl i)) (rng_i64 g2)
  have hS : ∀ s ∈ ([⟨(y0.s 5), [some .i64, some .i64], (y0.t 5)⟩, ⟨v1, [some .i64, some .i64, some .i64, some .i64], y1⟩] : List Cx.SlV), Cx.SlT s.ks w s.v s.xs := fun s hs => by
    simp only [List.mem_cons, List.not_mem_nil, or_false] at hs
    rcases hs with rfl | rfl
    · exact (g0.2 5 _ rfl)
    · exact g1
  exact Cx.Ctr.law (ρ := ⟨fun _ => 0, fun _ => false⟩) (σ := Cx.sigV w ([⟨(y0.s 5), [some .i64, some .i64], (y0.t 5)⟩, ⟨v1, [some .i64, some .i64, some .i64, some .i64], y1⟩] : List Cx.SlV)) (e := .x v) (Cx.dlpctr (y0.g 0) (y0.c 1) (y0.c 2) (y0.c 3) (y0.c 4) (Cx.tabV (y0.t 5)).n ((Cx.tabV (y0.t 5)).c 0) ((Cx.tabV (y0.t 5)).c 1) (Cx.tabV y1).n ((Cx.tabV y1).c 0) ((Cx.tabV y1).c 1) ((Cx.tabV y1).c 2) ((Cx.tabV y1).c 3) y2 Cx.dlpmem hv) hp (.cons (.agg (.cons (.bool (.x (y0.g 0))) (.cons (.int .i64 (.x (y0.c 1))) (.cons (.int .i64 (.x (y0.c 2))) (.cons (.int .i64 (.x (y0.c 3))) (.cons (.int .i64 (.x (y0.c 4))) (.cons (Cx.SlT.rel (S := ([⟨(y0.s 5), [some .i64, some .i64], (y0.t 5)⟩, ⟨v1, [some .i64, some .i64, some .i64, some .i64], y1⟩] : List Cx.SlV)) 0 rfl (g0.2 5 _ rfl)) .nil))))))) (.cons (Cx.SlT.rel (S := ([⟨(y0.s 5), [some .i64, some .i64], (y0.t 5)⟩, ⟨v1, [some .i64, some .i64, some .i64, some .i64], y1⟩] : List Cx.SlV)) 1 rfl g1) (.cons (.int .i64 (.x y2)) .nil))) (Cx.argsV ([⟨(y0.s 5), [some .i64, some .i64], (y0.t 5)⟩, ⟨v1, [some .i64, some .i64, some .i64, some .i64], y1⟩] : List Cx.SlV) _ hS hLw) (fun b hb => Cx.sigV_none hb)
theorem dplans_own : ownKnob Try.prog.godebug = none := by kernel_rfl
theorem dplans_laidOut : laidOutB Try.prog = true := by kernel_rfl
set_option maxRecDepth 100000 in
theorem dplans_lifted (os : Os) (started : os.Started) (H : Type) (enc : TypeId × Value → H) :
    ReturnsInHanded {} Try.checked os 4 .any (Rows.diePlansSpec.pre6 enc Try.prog Try.f4 Rows.diePlansRow.domain false) (Rows.diePlansSpec.post enc Try.prog Try.f4 false true false false) := by
  refine returnsInHanded_of_change (C := Try.checked) dplans_own started (by kernel_rfl) Try.func4
    (ChangeSpec.witness6 (enc := enc) (C := Try.checked) false ⟨#[], #[.agg #[.bool false, .int .i64 0, .int .i64 0, .int .i64 0, .int .i64 0, .slice none 0 0], .slice none 0 0, .int .i64 0], []⟩ 8 (by kernel_rfl) (by kernel_rfl) (by kernel_rfl) (by kernel_rfl)) ?_
  intro W base args ds gs before hval0 hW hcnd _
  have hval : ∀ (j : Nat) t v, Try.f4.params[j]? = some t → args[j]? = some v → Value.okWide Try.prog W .any base t v := hval0
  have hW' := hW
  obtain ⟨p, q, hA0, hV, rfl, hfz, hnd⟩ := hW
  have hA : DataW.TrodAll enc Try.prog W 0 (fun _ => true) true Try.f4.params.toList args.toList ds p := hA0
  rw [Try.params4] at hA hval
  obtain ⟨v0, vs0, d0, ds0, p0, q0, hargs, rfl, rfl, h0, r0⟩ := trodAll_cons hA
  obtain ⟨v1, vs1, d1, ds1, p1, q1, rfl, rfl, rfl, h1, r1⟩ := trodAll_cons r0
  obtain ⟨v2, vs2, d2, ds2, p2, q2, rfl, rfl, rfl, h2, r2⟩ := trodAll_cons r1
  obtain ⟨rfl, rfl, rfl⟩ := trodAll_nil r2
  obtain rfl : args = #[v0, v1, v2] := by cases args; simp_all
  obtain ⟨rfl, rfl⟩ := trodVars_none hV
  have k0 := h0
  have lt0 : ∀ x ∈ p0, x.block < W.heap.size := by obtain ⟨m, hm⟩ := k0; exact DataW.trod_lt m _ _ _ hm
  have k1 := h1
  have lt1 : ∀ x ∈ p1, x.block < W.heap.size := by obtain ⟨m, hm⟩ := k1; exact DataW.trod_lt m _ _ _ hm
  have k2 := h2
  have lt2 : ∀ x ∈ p2, x.block < W.heap.size := by obtain ⟨m, hm⟩ := k2; exact DataW.trod_lt m _ _ _ hm
  obtain ⟨y0, rfl, g0⟩ := dplans_open0 (hval 0 26 v0 rfl rfl) h0
  obtain ⟨y1, g1⟩ := Cx.open_slT (l := [some .i64, some .i64, some .i64, some .i64]) (dp := 12) (by kernel_rfl) Try.underlying27 (hval 1 27 v1 rfl rfl) h1
  obtain ⟨y2, rfl, rfl, rfl, g2⟩ := open_int Try.underlying3 (hval 2 3 v2 rfl rfl) h2
  clear hA0 hval0
  refine (dplans_walk y0 v1 y1 y2 W g0 g1 g2).mono fun e W' ⟨he, bel⟩ => ?_
  subst he
  exact ⟨_, rfl, _, _, _, [], _, [], hW', trodAll_mk1 (shut_bool Try.underlying4 _), (trodAll_cons_mk (Below.trod dplans_laidOut (by kernel_rfl) (of_decide_eq_true (by kernel_rfl)) k0 bel lt0) (trodAll_cons_mk (Below.trod dplans_laidOut (by kernel_rfl) (of_decide_eq_true (by kernel_rfl)) k1 bel lt1) (trodAll_cons_mk (Below.trod dplans_laidOut (by kernel_rfl) (of_decide_eq_true (by kernel_rfl)) k2 bel lt2) trodAll_mk0))), rfl, bel.frame _, fun h => by cases h⟩
theorem dplans_over : Rows.diePlansRow.holds Try.pinned (OpenSpec.ofChange Rows.diePlansSpec) :=
  OpenClaim.holds_of_wide 4 Try.f4 rfl rfl rfl rfl rfl rfl rfl ⟨rfl, rfl, rfl, rfl, rfl⟩ rfl rfl rfl rfl rfl (by kernel_rfl) Try.func4 (by kernel_rfl)
    (of_decide_eq_true (by kernel_rfl)) (by unfold Func.isWrapper; rw [if_neg (of_decide_eq_false (by kernel_rfl))]; exact ⟨rfl, rfl⟩)
    (fun os started H enc _ => dplans_lifted os started H enc)
theorem dplans_proved : Rows.DiePlansSaid := dplans_over
#print axioms dplans_proved
end Go.Proofs.Ythagjhadjpangaa
