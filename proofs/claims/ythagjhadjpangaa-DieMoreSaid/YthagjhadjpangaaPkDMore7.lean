/- Calls that acme/acmelaw07.known makes, each known by a run of its own. Made by tools/cxkcalls.py. -/
import Derived.Test.YthagjhadjpangaaPkDMore6

namespace Go.Proofs.Ythagjhadjpangaa.Cx
set_option maxRecDepth 100000
set_option linter.unusedVariables false
open Go Go.Proofs Go.RowKit
def CxKn07K0 : KCall := ⟨18, [.agg [.bool (.c false), .int .i64 (.c (-1000)), .int .i64 (.c 1000), .int .i64 (.c (-500)), .int .i64 (.c 500), .slc (some (0, 0)) 2 2], .slc (some (1, 0)) 2 2, .int .i64 (.c 0), .int .i64 (.c 200)], [([.int .i64 (.c 10), .int .i64 (.c 20), .int .i64 (.c 50), .int .i64 (.c 100)], 2), ([.int .i64 (.c 200), .int .i64 (.c 0), .int .i64 (.c 100000), .int .i64 (.c 110000), .int .i64 (.c 100), .int .i64 (.c 1), .int .i64 (.c 100000), .int .i64 (.c 110000)], 4)], .tup [.agg [.int .i64 (.c 2000), .int .i64 (.c 4000)], .int .i64 (.c 0)], []⟩
theorem CxKn07K0_run : CxKn07K0.says (eval (ctxOf Try.prog memo0) 1000 CxKn07K0.blks.length (.call CxKn07K0.g CxKn07K0.args) ⟨hB CxKn07K0.blks 0, CxKn07K0.blks.length, [], []⟩) = true := by kernel_rfl
theorem CxKn07K0_ok {ρ : Env} : CxKn07K0.Ok Try.prog ρ := KCall.of_run try_ok memo0_ok (by kernel_rfl) (by kernel_rfl) (by kernel_rfl) CxKn07K0_run
def CxKn07K1 : KCall := ⟨19, [.agg [.bool (.c false), .int .i64 (.c (-1000)), .int .i64 (.c 1000), .int .i64 (.c (-500)), .int .i64 (.c 500), .slc (some (0, 0)) 2 2], .slc (some (1, 0)) 2 2, .int .i64 (.c 0), .int .i64 (.c 200)], [([.int .i64 (.c 10), .int .i64 (.c 20), .int .i64 (.c 50), .int .i64 (.c 100)], 2), ([.int .i64 (.c 200), .int .i64 (.c 0), .int .i64 (.c 100000), .int .i64 (.c 110000), .int .i64 (.c 100), .int .i64 (.c 1), .int .i64 (.c 100000), .int .i64 (.c 110000)], 4)], .tup [.agg [.int .i64 (.c 101500), .int .i64 (.c 104520)], .int .i64 (.c 0)], []⟩
theorem CxKn07K1_run : CxKn07K1.says (eval (ctxOf Try.prog memo0) 1000 CxKn07K1.blks.length (.call CxKn07K1.g CxKn07K1.args) ⟨hB CxKn07K1.blks 0, CxKn07K1.blks.length, [], []⟩) = true := by kernel_rfl
theorem CxKn07K1_ok {ρ : Env} : CxKn07K1.Ok Try.prog ρ := KCall.of_run try_ok memo0_ok (by kernel_rfl) (by kernel_rfl) (by kernel_rfl) CxKn07K1_run
end Go.Proofs.Ythagjhadjpangaa.Cx

/- Calls that acme/acmelaw07.known makes, each known by a run of its own. Made by tools/cxkcalls.py. -/
namespace Go.Proofs.Ythagjhadjpangaa.Cx
set_option maxRecDepth 100000
set_option linter.unusedVariables false
open Go Go.Proofs Go.RowKit
def CxKn07K2 : KCall := ⟨25, [.agg [.bool (.c false), .int .i64 (.c (-1000)), .int .i64 (.c 1000), .int .i64 (.c (-500)), .int .i64 (.c 500), .slc (some (0, 0)) 2 2], .slc (some (1, 0)) 2 2, .int .i64 (.c 0)], [([.int .i64 (.c 10), .int .i64 (.c 20), .int .i64 (.c 50), .int .i64 (.c 100)], 2), ([.int .i64 (.c 200), .int .i64 (.c 0), .int .i64 (.c 100000), .int .i64 (.c 110000), .int .i64 (.c 100), .int .i64 (.c 1), .int .i64 (.c 100000), .int .i64 (.c 110000)], 4)], .tup [.int .i64 (.c 231), .int .i64 (.c 0)], []⟩
theorem CxKn07K2_run : CxKn07K2.says (eval (ctxOf Try.prog memo0) 1000 CxKn07K2.blks.length (.call CxKn07K2.g CxKn07K2.args) ⟨hB CxKn07K2.blks 0, CxKn07K2.blks.length, [], []⟩) = true := by kernel_rfl
theorem CxKn07K2_ok {ρ : Env} : CxKn07K2.Ok Try.prog ρ := KCall.of_run try_ok memo0_ok (by kernel_rfl) (by kernel_rfl) (by kernel_rfl) CxKn07K2_run
def CxKn07K3 : KCall := ⟨26, [.agg [.bool (.c false), .int .i64 (.c (-1000)), .int .i64 (.c 1000), .int .i64 (.c (-500)), .int .i64 (.c 500), .slc (some (0, 0)) 2 2], .slc (some (1, 0)) 2 2], [([.int .i64 (.c 10), .int .i64 (.c 20), .int .i64 (.c 50), .int .i64 (.c 100)], 2), ([.int .i64 (.c 200), .int .i64 (.c 0), .int .i64 (.c 100000), .int .i64 (.c 110000), .int .i64 (.c 100), .int .i64 (.c 1), .int .i64 (.c 100000), .int .i64 (.c 110000)], 4)], .tup [.slc (some (2, 0)) 2 2, .int .i64 (.c 0)], [(725, ([.int .i64 (.c 0), .int .i64 (.c 101500), .int .i64 (.c 231), .int .i64 (.c 101500)], 2))]⟩
theorem CxKn07K3_run : CxKn07K3.says (eval (ctxOf Try.prog memo0) 1000 CxKn07K3.blks.length (.call CxKn07K3.g CxKn07K3.args) ⟨hB CxKn07K3.blks 0, CxKn07K3.blks.length, [], []⟩) = true := by kernel_rfl
theorem CxKn07K3_ok {ρ : Env} : CxKn07K3.Ok Try.prog ρ := KCall.of_run try_ok memo0_ok (by kernel_rfl) (by kernel_rfl) (by kernel_rfl) CxKn07K3_run
end Go.Proofs.Ythagjhadjpangaa.Cx

/- Calls that acme/acmelaw07.known makes, each known by a run of its own. Made by tools/cxkcalls.py. -/
namespace Go.Proofs.Ythagjhadjpangaa.Cx
set_option maxRecDepth 100000
set_option linter.unusedVariables false
open Go Go.Proofs Go.RowKit
def CxKn07K4 : KCall := ⟨30, [.agg [.bool (.c false), .int .i64 (.c (-1000)), .int .i64 (.c 1000), .int .i64 (.c (-500)), .int .i64 (.c 500), .slc (some (0, 0)) 2 2], .slc (some (1, 0)) 2 2, .int .i64 (.c 1)], [([.int .i64 (.c 10), .int .i64 (.c 20), .int .i64 (.c 50), .int .i64 (.c 100)], 2), ([.int .i64 (.c 200), .int .i64 (.c 0), .int .i64 (.c 100000), .int .i64 (.c 110000), .int .i64 (.c 100), .int .i64 (.c 1), .int .i64 (.c 100000), .int .i64 (.c 110000)], 4)], .tup [.int .i64 (.c 231), .int .i64 (.c 0)], []⟩
theorem CxKn07K4_run : CxKn07K4.says (eval (ctxOf Try.prog memo0) 1000 CxKn07K4.blks.length (.call CxKn07K4.g CxKn07K4.args) ⟨hB CxKn07K4.blks 0, CxKn07K4.blks.length, [], []⟩) = true := by kernel_rfl
theorem CxKn07K4_ok {ρ : Env} : CxKn07K4.Ok Try.prog ρ := KCall.of_run try_ok memo0_ok (by kernel_rfl) (by kernel_rfl) (by kernel_rfl) CxKn07K4_run
def CxKn07K5 : KCall := ⟨34, [.agg [.bool (.c false), .int .i64 (.c (-1000)), .int .i64 (.c 1000), .int .i64 (.c (-500)), .int .i64 (.c 500), .slc (some (0, 0)) 2 2], .slc (some (1, 0)) 2 2, .slc (some (2, 0)) 1 1], [([.int .i64 (.c 10), .int .i64 (.c 20), .int .i64 (.c 50), .int .i64 (.c 100)], 2), ([.int .i64 (.c 200), .int .i64 (.c 0), .int .i64 (.c 100000), .int .i64 (.c 110000), .int .i64 (.c 100), .int .i64 (.c 1), .int .i64 (.c 100000), .int .i64 (.c 110000)], 4), ([.int .i64 (.c 0), .int .i64 (.c 102000)], 2)], .tup [.int .i64 (.c 226), .int .i64 (.c 0)], []⟩
theorem CxKn07K5_run : CxKn07K5.says (eval (ctxOf Try.prog memo0) 1000 CxKn07K5.blks.length (.call CxKn07K5.g CxKn07K5.args) ⟨hB CxKn07K5.blks 0, CxKn07K5.blks.length, [], []⟩) = true := by kernel_rfl
theorem CxKn07K5_ok {ρ : Env} : CxKn07K5.Ok Try.prog ρ := KCall.of_run try_ok memo0_ok (by kernel_rfl) (by kernel_rfl) (by kernel_rfl) CxKn07K5_run
end Go.Proofs.Ythagjhadjpangaa.Cx

/- Calls that acme/acmelaw07.known makes, each known by a run of its own. Made by tools/cxkcalls.py. -/
namespace Go.Proofs.Ythagjhadjpangaa.Cx
set_option maxRecDepth 100000
set_option linter.unusedVariables false
open Go Go.Proofs Go.RowKit
def CxKn07K6 : KCall := ⟨35, [.agg [.bool (.c false), .int .i64 (.c (-1000)), .int .i64 (.c 1000), .int .i64 (.c (-500)), .int .i64 (.c 500), .slc (some (0, 0)) 2 2], .slc (some (1, 0)) 2 2, .slc (some (2, 0)) 2 2], [([.int .i64 (.c 10), .int .i64 (.c 20), .int .i64 (.c 50), .int .i64 (.c 100)], 2), ([.int .i64 (.c 200), .int .i64 (.c 0), .int .i64 (.c 100000), .int .i64 (.c 110000), .int .i64 (.c 100), .int .i64 (.c 1), .int .i64 (.c 100000), .int .i64 (.c 110000)], 4), ([.int .i64 (.c 0), .int .i64 (.c 231)], 1)], .tup [.int .i64 (.c (-1)), .int .i64 (.c 0)], []⟩
theorem CxKn07K6_run : CxKn07K6.says (eval (ctxOf Try.prog memo0) 1000 CxKn07K6.blks.length (.call CxKn07K6.g CxKn07K6.args) ⟨hB CxKn07K6.blks 0, CxKn07K6.blks.length, [], []⟩) = true := by kernel_rfl
theorem CxKn07K6_ok {ρ : Env} : CxKn07K6.Ok Try.prog ρ := KCall.of_run try_ok memo0_ok (by kernel_rfl) (by kernel_rfl) (by kernel_rfl) CxKn07K6_run
def CxKn07K7 : KCall := ⟨35, [.agg [.bool (.c false), .int .i64 (.c (-1000)), .int .i64 (.c 1000), .int .i64 (.c (-500)), .int .i64 (.c 500), .slc (some (0, 0)) 2 2], .slc (some (1, 0)) 2 2, .slc (some (2, 0)) 2 2], [([.int .i64 (.c 10), .int .i64 (.c 20), .int .i64 (.c 50), .int .i64 (.c 100)], 2), ([.int .i64 (.c 200), .int .i64 (.c 0), .int .i64 (.c 100000), .int .i64 (.c 110000), .int .i64 (.c 100), .int .i64 (.c 1), .int .i64 (.c 100000), .int .i64 (.c 110000)], 4), ([.int .i64 (.c 0), .int .i64 (.c 230)], 1)], .tup [.int .i64 (.c 0), .int .i64 (.c 0)], []⟩
theorem CxKn07K7_run : CxKn07K7.says (eval (ctxOf Try.prog memo0) 1000 CxKn07K7.blks.length (.call CxKn07K7.g CxKn07K7.args) ⟨hB CxKn07K7.blks 0, CxKn07K7.blks.length, [], []⟩) = true := by kernel_rfl
theorem CxKn07K7_ok {ρ : Env} : CxKn07K7.Ok Try.prog ρ := KCall.of_run try_ok memo0_ok (by kernel_rfl) (by kernel_rfl) (by kernel_rfl) CxKn07K7_run
end Go.Proofs.Ythagjhadjpangaa.Cx

/- Calls that acme/acmelaw07.known makes, each known by a run of its own. Made by tools/cxkcalls.py. -/
namespace Go.Proofs.Ythagjhadjpangaa.Cx
set_option maxRecDepth 100000
set_option linter.unusedVariables false
open Go Go.Proofs Go.RowKit
def CxKn07K8 : KCall := ⟨41, [.agg [.bool (.c false), .int .i64 (.c (-1000)), .int .i64 (.c 1000), .int .i64 (.c (-500)), .int .i64 (.c 500), .slc (some (0, 0)) 2 2], .agg [.int .i64 (.c 102400), .int .i64 (.c 103600)], .int .i64 (.c 1), .agg [.int .i64 (.c 100000), .int .i64 (.c 110000)]], [([.int .i64 (.c 10), .int .i64 (.c 20), .int .i64 (.c 50), .int .i64 (.c 100)], 2)], .tup [.int .i64 (.c 60), .int .i64 (.c 0)], []⟩
theorem CxKn07K8_run : CxKn07K8.says (eval (ctxOf Try.prog memo0) 1000 CxKn07K8.blks.length (.call CxKn07K8.g CxKn07K8.args) ⟨hB CxKn07K8.blks 0, CxKn07K8.blks.length, [], []⟩) = true := by kernel_rfl
theorem CxKn07K8_ok {ρ : Env} : CxKn07K8.Ok Try.prog ρ := KCall.of_run try_ok memo0_ok (by kernel_rfl) (by kernel_rfl) (by kernel_rfl) CxKn07K8_run
end Go.Proofs.Ythagjhadjpangaa.Cx

/- acme/acmelaw07.known returns true, in every world that holds what the listed variables hold: by the evaluator, its heavy calls by runs of their own. Made by tools/cxkcalls.py. -/
namespace Go.Proofs.Ythagjhadjpangaa.Cx
set_option maxRecDepth 100000
set_option linter.unusedVariables false
open Go Go.Proofs Go.RowKit
noncomputable def CxKn07C : Ctx := ctxOf Try.prog (memoK CxKn07K0 (memoK CxKn07K1 (memoK CxKn07K2 (memoK CxKn07K3 (memoK CxKn07K4 (memoK CxKn07K5 (memoK CxKn07K6 (memoK CxKn07K7 (memoK CxKn07K8 memo0)))))))))
theorem CxKn07_run : isTrue (eval CxKn07C 1000 0 (.call 14 []) .empty) = true := by kernel_rfl
theorem CxKn07_known : KnownB Try.prog 14 := known_of try_ok (memoK_ok CxKn07K0_ok (memoK_ok CxKn07K1_ok (memoK_ok CxKn07K2_ok (memoK_ok CxKn07K3_ok (memoK_ok CxKn07K4_ok (memoK_ok CxKn07K5_ok (memoK_ok CxKn07K6_ok (memoK_ok CxKn07K7_ok (memoK_ok CxKn07K8_ok memo0_ok))))))))) (by kernel_rfl) CxKn07_run
end Go.Proofs.Ythagjhadjpangaa.Cx

/- acme/acmelaw07.DieMosts as an automaton. Made by tools/cxauto.py. -/
namespace Go.Proofs.Ythagjhadjpangaa.Cx
set_option linter.unusedVariables false
set_option linter.unusedSimpArgs false
set_option maxRecDepth 100000
open Go Go.Proofs Go.RowKit
abbrev dlmR := Bool
instance : Inhabited dlmR := ⟨false⟩
end Go.Proofs.Ythagjhadjpangaa.Cx

/- Package die: Most, the program's and the reference's; DieMosts: the law's run. -/
namespace Go.Proofs.Ythagjhadjpangaa.Cx
set_option linter.unusedVariables false
set_option linter.unusedSimpArgs false
set_option maxRecDepth 100000
set_option maxHeartbeats 4000000
open Go Go.RowKit
section
variable {a0 : Bool} {a1 a2 a3 a4 : Int} {a5 : Nat} {a6 a7 : Nat → Int} {a8 : Nat} {a9 a10 a11 a12 : Nat → Int} {a13 : Int}
theorem rdf_val (h : JobOk a1 a2 a3 a4 a5 a6 a7 a8 a9 a10 a11 a12) (hT : 0 < PS a9 a8) (h3 : PS a9 a8 ≤ 9000) : AF.fin (rdfA a0 a1 a2 a3 a4 a5 a6 a7 a8 a9 a10 a11 a12) = true ∧ ((AF.val (rdfA a0 a1 a2 a3 a4 a5 a6 a7 a8 a9 a10 a11 a12)).1 : Int) = PS a9 a8 + 1 ∧ FewS (PS a9 a8) (loJ a0 a1 a3 a6 a7 a8 a9 a10 a11) (hiJ a0 a2 a4 a6 a7 a8 a9 a10 a12) (AF.val (rdfA a0 a1 a2 a3 a4 a5 a6 a7 a8 a9 a10 a11 a12)).1 (AF.val (rdfA a0 a1 a2 a3 a4 a5 a6 a7 a8 a9 a10 a11 a12)).2 := by
  obtain ⟨af, av⟩ := rda_val (a0 := a8) (a1 := a9) (a2 := a10) (a3 := a11) (a4 := a12) h.few h.pc
  have avE : AF.val (rdaA a8 (fun i => a9 i) (fun i => a10 i) (fun i => a11 i) (fun i => a12 i)) = _ := av
  have late := h.late (a0 := a0)
  refine AF.val_sat (A := rdfA a0 a1 a2 a3 a4 a5 a6 a7 a8 a9 a10 a11 a12) (E := fun v => (v.1 : Int) = PS a9 a8 + 1 ∧ FewS (PS a9 a8) (loJ a0 a1 a3 a6 a7 a8 a9 a10 a11) (hiJ a0 a2 a4 a6 a7 a8 a9 a10 a12) v.1 v.2)
    (Inv := fun b => match b with
      | .n0 p0 p1 p2 => p1 = p0 ∧ 1 ≤ p1 ∧ p1 ≤ PS a9 a8 + 1 ∧ FewS (PS a9 a8) (loJ a0 a1 a3 a6 a7 a8 a9 a10 a11) (hiJ a0 a2 a4 a6 a7 a8 a9 a10 a12) p0 p2
      | .n1 p0 p1 p2 p3 p4 p5 p6 => (p1 = p0 ∧ p5 = p0 ∧ p2 = p0) ∧ 1 ≤ p2 ∧ p2 ≤ PS a9 a8 ∧ -1 ≤ p4 ∧ p4 < p2 ∧ FewS (PS a9 a8) (loJ a0 a1 a3 a6 a7 a8 a9 a10 a11) (hiJ a0 a2 a4 a6 a7 a8 a9 a10 a12) p0 p6 ∧ BestS (loJ a0 a1 a3 a6 a7 a8 a9 a10 a11) (hiJ a0 a2 a4 a6 a7 a8 a9 a10 a12) p0 p6 p4 p3)
    (fun b => match b with | .n0 p0 p1 p2 => (PS a9 a8 + 1 - p1).toNat * 10000 | .n1 p0 p1 p2 p3 p4 p5 p6 => (PS a9 a8 - p2).toNat * 10000 + (p4 + 2).toNat) (fun b => rfl) (fun a hI => ?_) ?_
  · cases a with
    | n0 p0 p1 p2 =>
      obtain ⟨g0, g1, g2, g3⟩ := hI
      show DD.sat _ _ (rdfD a0 a1 a2 a3 a4 a5 a6 a7 a8 a9 a10 a11 a12 (.n0 p0 p1 p2))
      unfold rdfD
      have es : Ar.run .sub .i64 p1 1 = p1 - 1 := arSub (by omega)
      simp only [DD.sat, Nat.zero_add, cmLss, cmLssF, cmLeq, cmLeqF, cmGtr, cmGtrF, cmGeq, cmGeqF, cmEql, cmEqlF, cmNeq, cmNeqF, decide_eq_true_eq, Bool.not_eq_true', Bool.not_eq_false', avE, es]
      refine ⟨Nat.le_refl _, shape_ok fun i _ => rfl, af, fun hp => ⟨⟨⟨trivial, trivial, g0⟩, g1, hp, by omega, by omega, g3, ⟨by omega, by omega⟩, fun f f1 f2 => by omega, .inl rfl⟩, ?_⟩, fun hp => ⟨by omega, g3⟩⟩
      have e : (PS a9 a8 + 1 - p1).toNat = (PS a9 a8 - p1).toNat + 1 := by omega
      rw [e, Nat.add_mul]
      omega
    | n1 p0 p1 p2 p3 p4 p5 p6 =>
      obtain ⟨⟨rfl, rfl, rfl⟩, g1, g2, g3, g4, g5, ⟨b0, b1, b2⟩⟩ := hI
      show DD.sat _ _ (rdfD a0 a1 a2 a3 a4 a5 a6 a7 a8 a9 a10 a11 a12 (.n1 _ _ _ p3 p4 _ p6))
      unfold rdfD
      by_cases hq : 0 ≤ p4
      · have es : Ar.run .sub .i64 p4 1 = p4 - 1 := arSub (by omega)
        obtain ⟨tf, tv⟩ := rdt_val (a0 := a0) (a13 := p4) (a14 := p5) h hq (by omega) (by omega)
        have tvE : AF.val (rdtA a0 a1 a2 a3 a4 a5 (fun i => a6 i) (fun i => a7 i) a8 (fun i => a9 i) (fun i => a10 i) (fun i => a11 i) (fun i => a12 i) p4 p5) = _ := tv
        have fe := (g5 p4.toNat (by omega)).1
        have ea : Ar.run .add .i64 (p6 p4.toNat) 1 = p6 p4.toNat + 1 := arAdd (by omega)
        have e4 : ((p4.toNat : Nat) : Int) = p4 := Int.toNat_of_nonneg hq
        have skip : (p6 p4.toNat < 1000000 → CanP (loJ a0 a1 a3 a6 a7 a8 a9 a10 a11) (hiJ a0 a2 a4 a6 a7 a8 a9 a10 a12) p4 p5 → p3 ≤ p6 p4.toNat + 1) → BestS (loJ a0 a1 a3 a6 a7 a8 a9 a10 a11) (hiJ a0 a2 a4 a6 a7 a8 a9 a10 a12) p5 p6 (p4 - 1) p3 := fun hs => ⟨b0, fun f f1 f2 f3 f4 => by
          by_cases he : p4 < f
          · exact b1 f he f2 f3 f4
          · obtain rfl : f = p4.toNat := by omega
            rw [e4] at f4
            exact hs f3 f4, b2⟩
        simp only [DD.sat, Nat.zero_add, cmLss, cmLssF, cmLeq, cmLeqF, cmGtr, cmGtrF, cmGeq, cmGeqF, cmEql, cmEqlF, cmNeq, cmNeqF, decide_eq_true_eq, Bool.not_eq_true', Bool.not_eq_false', tvE, es, ea, arMn]
        refine ⟨fun _ => ⟨hq, by omega, by omega, fun hn => ⟨Nat.le_refl _, shape_ok fun i _ => rfl, Nat.le_refl _, shape_ok fun i _ => rfl, tf, fun hc => ⟨hq, by omega, by omega, ⟨⟨trivial, trivial, trivial⟩, g1, g2, by omega, by omega, g5, ⟨by omega, by omega⟩, fun f f1 f2 f3 f4 => ?_, ?_⟩, by omega⟩, fun hc => ⟨⟨⟨trivial, trivial, trivial⟩, g1, g2, by omega, by omega, g5, skip fun _ hx => absurd hx (Int.not_le.2 hc)⟩, by omega⟩⟩, fun hn => ⟨⟨⟨trivial, trivial, trivial⟩, g1, g2, by omega, by omega, g5, skip fun hx => by omega⟩, by omega⟩⟩, fun hx => by omega⟩
        · show min p3 (p6 p4.toNat + 1) ≤ p6 f + 1
          by_cases he : p4 < f
          · have := b1 f he f2 f3 f4
            omega
          · obtain rfl : f = p4.toNat := by omega
            omega
        · rcases b2 with b2 | ⟨f, f1, f2, f3, f4⟩
          · exact .inr ⟨p4.toNat, by omega, hn, by rw [e4]; exact hc, (show min p3 (p6 p4.toNat + 1) = p6 p4.toNat + 1 by omega)⟩
          · by_cases hm : p3 ≤ p6 p4.toNat + 1
            · exact .inr ⟨f, f1, f2, f3, (show min p3 (p6 p4.toNat + 1) = p6 f + 1 by omega)⟩
            · exact .inr ⟨p4.toNat, by omega, hn, by rw [e4]; exact hc, (show min p3 (p6 p4.toNat + 1) = p6 p4.toNat + 1 by omega)⟩
      · obtain rfl : p4 = -1 := by omega
        have ea : Ar.run .add .i64 (p5 : Int) 1 = (p5 : Int) + 1 := arAdd (by omega)
        simp only [DD.sat, Nat.zero_add, cmLss, cmLssF, cmLeq, cmLeqF, cmGtr, cmGtrF, cmGeq, cmGeqF, cmEql, cmEqlF, cmNeq, cmNeqF, decide_eq_true_eq, Bool.not_eq_true', Bool.not_eq_false', ea]
        refine ⟨fun hx => by omega, fun _ => ⟨Nat.le_refl _, by omega, ⟨by omega, by omega, by omega, fun j hj => ?_⟩, ?_⟩⟩
        · dsimp only
          by_cases he : j < p5
          · rw [bif_lt he]
            exact g5 j he
          · obtain rfl : j = p5 := by omega
            rw [bif_ge]
            exact ⟨b0, few_next late (by omega) (by omega) g2 g5 ⟨b0, b1, b2⟩⟩
        · have e : (PS a9 a8 + 1 - ((p5 : Int) + 1)).toNat = (PS a9 a8 - p5).toNat := by omega
          rw [e]
          omega
  · refine ⟨rfl, Int.le_refl _, by omega, fun j hj => ?_⟩
    obtain rfl : j = 0 := by omega
    refine ⟨⟨Int.le_refl _, (by decide : (0 : Int) ≤ 1000000)⟩, fun k _ => ?_⟩
    have r := GE_rng late (by omega) k
    show (0 : Int) ≤ k ↔ _
    constructor <;> intro _ <;> omega
def DmsS (G : Int) : dmos0R → Prop
  | .r0 q0 q1 => q1 = G
  | .r1 q0 q1 => q1 = G
theorem dms_gen (h : JobOk a1 a2 a3 a4 a5 a6 a7 a8 a9 a10 a11 a12) (hs : 0 ≤ a13 ∧ a13 ≤ 1000) : ∃ n v, AF.run (dmos0A a0 a1 a2 a3 a4 a5 a6 a7 a8 a9 a10 a11 a12 a13 a0 a1 a2 a3 a4 a5 a8 (PS a9 a8)) n = some v ∧ DmsS (GE (PS a9 a8) (loJ a0 a1 a3 a6 a7 a8 a9 a10 a11) (hiJ a0 a2 a4 a6 a7 a8 a9 a10 a12) a13.toNat) v := by
  have late := h.late (a0 := a0)
  have r := PS_rng h.pc a8 (Nat.le_refl _)
  refine AF.run_sat (E := DmsS (GE (PS a9 a8) (loJ a0 a1 a3 a6 a7 a8 a9 a10 a11) (hiJ a0 a2 a4 a6 a7 a8 a9 a10 a12) a13.toNat)) (Inv := fun b => match b with | .n0 q0 q1 => 0 ≤ q1 ∧ q1 ≤ a13 ∧ q0 = GE (PS a9 a8) (loJ a0 a1 a3 a6 a7 a8 a9 a10 a11) (hiJ a0 a2 a4 a6 a7 a8 a9 a10 a12) (a13 - q1).toNat)
    (fun b => match b with | .n0 q0 q1 => q1.toNat) (fun b => rfl) (fun a hI => ?_) ?_
  · cases a with
    | n0 q0 q1 =>
      obtain ⟨g0, g1, g2⟩ := hI
      have gr := GE_rng late (by omega) (a13 - q1).toNat
      rw [← g2] at gr
      have stuck : JO (PS a9 a8) (loJ a0 a1 a3 a6 a7 a8 a9 a10 a11) (hiJ a0 a2 a4 a6 a7 a8 a9 a10 a12) q0 = 0 → q0 = GE (PS a9 a8) (loJ a0 a1 a3 a6 a7 a8 a9 a10 a11) (hiJ a0 a2 a4 a6 a7 a8 a9 a10 a12) a13.toNat := fun hj => by
        rw [g2] at hj
        have := GE_stuck late hj q1.toNat
        rw [show (a13 - q1).toNat + q1.toNat = a13.toNat by omega] at this
        rw [this, g2]
      show DD.sat _ _ (dmos0D a0 a1 a2 a3 a4 a5 a6 a7 a8 a9 a10 a11 a12 a13 a0 a1 a2 a3 a4 a5 a8 (PS a9 a8) (.n0 q0 q1))
      unfold dmos0D
      by_cases hq : q0 < PS a9 a8
      · obtain ⟨rf, x, y, z, rv, hR⟩ := drc_gen (a0 := a0) (a13 := PS a9 a8) (a14 := -10000000000) (a15 := 20000000000) (a16 := q0) (a17 := PS a9 a8) h gr.1 (by omega) (Int.le_refl _)
        obtain ⟨J, hJ, rfl, _⟩ := rj_of h gr.1 hq hR
        have ej := JO_of late gr.1 gr.2 hJ
        have rvE : AF.val (drcA a0 a1 a2 a3 a4 a5 (fun i => a6 i) (fun i => a7 i) a8 (fun i => a9 i) (fun i => a10 i) (fun i => a11 i) (fun i => a12 i) (PS a9 a8) (-10000000000) 20000000000 q0 (PS a9 a8)) = _ := rv
        have es : Ar.run .sub .i64 q1 1 = q1 - 1 := arSub (by omega)
        simp only [DD.sat, Nat.zero_add, cmLss, cmLssF, cmLeq, cmLeqF, cmGtr, cmGtrF, cmGeq, cmGeqF, cmEql, cmEqlF, cmNeq, cmNeqF, decide_eq_true_eq, Bool.not_eq_true', Bool.not_eq_false', rvE, es]
        refine ⟨fun _ => ⟨Nat.le_refl _, shape_ok fun i _ => rfl, Nat.le_refl _, shape_ok fun i _ => rfl, rf, fun hx => stuck (by omega), fun hx => ⟨fun hz => ?_, fun hz => ⟨⟨by omega, by omega, ?_⟩, by omega⟩⟩⟩, fun hx => by omega⟩
        · rw [hz, show (a13 - 0).toNat = a13.toNat by omega] at g2
          exact g2
        · rw [show (a13 - (q1 - 1)).toNat = (a13 - q1).toNat + 1 by omega, GE, ← g2, ej]
      · simp only [DD.sat, Nat.zero_add, cmLss, cmLssF, cmLeq, cmLeqF, cmGtr, cmGtrF, cmGeq, cmGeqF, cmEql, cmEqlF, cmNeq, cmNeqF, decide_eq_true_eq, Bool.not_eq_true', Bool.not_eq_false']
        refine ⟨fun hx => by omega, fun _ => stuck ?_⟩
        have := (JO_spec late gr.1 gr.2).1
        omega
  · show 0 ≤ a13 ∧ a13 ≤ a13 ∧ (0 : Int) = GE _ _ _ (a13 - a13).toNat
    rw [show (a13 - a13).toNat = 0 by omega]
    exact ⟨hs.1, Int.le_refl _, rfl⟩
def MosE (a0 : Bool) (a1 a2 a3 a4 : Int) (a5 : Nat) (a6 a7 : Nat → Int) (a8 : Nat) (a9 a10 a11 a12 : Nat → Int) (a13 : Int) (v : Int × Int) : Prop :=
  ∃ e, CkS a5 a8 (ToolOk a5 a6 a7 a1 a2 a3 a4) a9 a10 a11 a12 e ∧ (e ≠ 0 ∧ v = (0, e) ∨ e = 0 ∧ (¬ (0 ≤ a13 ∧ a13 ≤ 1000) ∧ v = (0, 3) ∨
    (0 ≤ a13 ∧ a13 ≤ 1000) ∧ v = (GE (PS a9 a8) (loJ a0 a1 a3 a6 a7 a8 a9 a10 a11) (hiJ a0 a2 a4 a6 a7 a8 a9 a10 a12) a13.toNat, 0)))
theorem dmo_mono : AF.Mono (dmoA a0 a1 a2 a3 a4 a5 a6 a7 a8 a9 a10 a11 a12 a13) := AF.mono_map fun a => by
  cases a with
  | n0 p0 p1 p2 p3 p4 p5 p6 p7 => exact .inr ⟨_, _, _, _, AF.mono_none (fun _ => rfl), rfl⟩
theorem dmo_val (hn : a5 ≤ 10000) (hm : a8 ≤ 10000) : AF.fin (dmoA a0 a1 a2 a3 a4 a5 a6 a7 a8 a9 a10 a11 a12 a13) = true ∧ MosE a0 a1 a2 a3 a4 a5 a6 a7 a8 a9 a10 a11 a12 a13 (AF.val (dmoA a0 a1 a2 a3 a4 a5 a6 a7 a8 a9 a10 a11 a12 a13)) := by
  obtain ⟨hf, e, hC, hv⟩ := dsh_val (a0 := a0) (a1 := a1) (a2 := a2) (a3 := a3) (a4 := a4) (a5 := a5) (a6 := a6) (a7 := a7) (a8 := a8) (a9 := a9) (a10 := a10) (a11 := a11) (a12 := a12) hn hm
  refine AF.val_satR (A := dmoA a0 a1 a2 a3 a4 a5 a6 a7 a8 a9 a10 a11 a12 a13) (E := MosE a0 a1 a2 a3 a4 a5 a6 a7 a8 a9 a10 a11 a12 a13) (Inv := fun b => match b with | .n0 p0 p1 p2 p3 p4 p5 p6 p7 => (p0 = a0 ∧ p1 = a1 ∧ p2 = a2 ∧ p3 = a3 ∧ p4 = a4 ∧ p5 = a5 ∧ p6 = a8 ∧ p7 = PS a9 a8) ∧ e = 0 ∧ 0 ≤ a13 ∧ a13 ≤ 1000) dmo_mono (fun _ => 0) (fun a hI => .inr ?_) ?_
  · cases a with
    | n0 p0 p1 p2 p3 p4 p5 p6 p7 =>
      obtain ⟨⟨rfl, rfl, rfl, rfl, rfl, rfl, rfl, rfl⟩, rfl, g0, g1⟩ := hI
      obtain ⟨n, v, hv, hE⟩ := dms_gen (a0 := p0) hC.job ⟨g0, g1⟩
      refine ⟨_, n, dmoRg0 p0 p1 p2 p3 p4 p5 a6 a7 p6 a9 a10 a11 a12 a13 p0 p1 p2 p3 p4 p5 p6 (PS a9 p6) v, rfl, ?_, ?_⟩
      · show Option.map _ (AF.run _ n) = _
        rw [hv]; rfl
      · cases v with
        | r0 q0 q1 =>
          obtain rfl : q1 = _ := hE
          exact ⟨0, hC, .inr ⟨rfl, .inr ⟨⟨g0, g1⟩, rfl⟩⟩⟩
        | r1 q0 q1 =>
          obtain rfl : q1 = _ := hE
          exact ⟨0, hC, .inr ⟨rfl, .inr ⟨⟨g0, g1⟩, rfl⟩⟩⟩
  · show DD.sat _ _ (dmoD0 a0 a1 a2 a3 a4 a5 a6 a7 a8 a9 a10 a11 a12 a13)
    unfold dmoD0
    rcases hv with ⟨he, hv⟩ | ⟨rfl, hv⟩
    · have hv' : AF.val (dshA a0 a1 a2 a3 a4 a5 (fun i => a6 i) (fun i => a7 i) a8 (fun i => a9 i) (fun i => a10 i) (fun i => a11 i) (fun i => a12 i)) = .r0 e := hv
      simp only [DD.sat, Nat.zero_add, cmLss, cmLssF, cmLeq, cmLeqF, cmGtr, cmGtrF, cmGeq, cmGeqF, cmEql, cmEqlF, cmNeq, cmNeqF, decide_eq_true_eq, Bool.not_eq_true', Bool.not_eq_false', hv', dshw8]
      refine ⟨Nat.le_refl _, shape_ok fun i _ => rfl, Nat.le_refl _, shape_ok fun i _ => rfl, hf, fun _ => ⟨e, hC, .inl ⟨he, rfl⟩⟩, fun hx => absurd hx he⟩
    · have hv' : AF.val (dshA a0 a1 a2 a3 a4 a5 (fun i => a6 i) (fun i => a7 i) a8 (fun i => a9 i) (fun i => a10 i) (fun i => a11 i) (fun i => a12 i)) = .r1 a0 a1 a2 a3 a4 a5 a8 (PS a9 a8) := hv
      have bad : ¬ (0 ≤ a13 ∧ a13 ≤ 1000) → MosE a0 a1 a2 a3 a4 a5 a6 a7 a8 a9 a10 a11 a12 a13 (0, 3) := fun hb => ⟨0, hC, .inr ⟨rfl, .inl ⟨hb, rfl⟩⟩⟩
      simp only [DD.sat, Nat.zero_add, cmLss, cmLssF, cmLeq, cmLeqF, cmGtr, cmGtrF, cmGeq, cmGeqF, cmEql, cmEqlF, cmNeq, cmNeqF, decide_eq_true_eq, Bool.not_eq_true', Bool.not_eq_false', hv', dshw0, dshw1, dshw2, dshw3, dshw4, dshw5, dshw6, dshw7, dshw8]
      refine ⟨Nat.le_refl _, shape_ok fun i _ => rfl, Nat.le_refl _, shape_ok fun i _ => rfl, hf, fun hx => absurd rfl hx, fun _ => ⟨fun h => bad (by omega), fun h1 => ⟨fun h => bad (by omega), fun h2 => (by repeat' (first | trivial | omega | apply And.intro))⟩⟩⟩
end
end Go.Proofs.Ythagjhadjpangaa.Cx

/- Package die: no fewer settings will do, in plain Lean. -/
namespace Go.Proofs.Ythagjhadjpangaa.Cx
set_option linter.unusedVariables false
set_option linter.unusedSimpArgs false
set_option maxRecDepth 100000
set_option maxHeartbeats 4000000
open Go Go.RowKit
section
variable {T : Int} {lo hi : Int → Nat → Int} {k : Nat} {f : Int} {F G : Nat → Int}
theorem Chn.ge (m : Late T lo hi) (hT : 0 ≤ T) (h : Chn T lo hi k f F G) : GE T lo hi k = f ∧ ∀ i, i < k → F i = GE T lo hi i ∧ GE T lo hi i < GE T lo hi (i + 1) := by
  obtain ⟨E, e0, ek, h⟩ := h
  have ag : ∀ i, i ≤ k → GE T lo hi i = E i := by
    intro i
    induction i with
    | zero => intro _; rw [GE, e0]
    | succ i ih =>
      intro hq
      have a := ih (by omega)
      obtain ⟨_, J, j0, r, e, _⟩ := h i (by omega)
      have g := GE_rng m hT i
      rw [← a] at r e
      rw [GE, JO_of m g.1 g.2 r, e]
  refine ⟨by rw [ag k (Nat.le_refl _), ek], fun i hq => ?_⟩
  obtain ⟨a, J, j0, r, e, _⟩ := h i hq
  rw [ag i (by omega), ag (i + 1) (by omega)]
  exact ⟨a, by omega⟩
theorem Stk.less (m : Late T lo hi) (hT : 0 ≤ T) (h : Stk T lo hi) (j : Nat) : GE T lo hi j < T := by
  obtain ⟨k, f, F, G, c, hf, hs⟩ := h
  have e := (c.ge m hT).1
  have r := GE_rng m hT k
  have jo : JO T lo hi (GE T lo hi k) = 0 := by rw [e]; exact JO_of m (by omega) (by omega) hs
  by_cases hj : j ≤ k
  · have := GE_mono m (i := j) k hj
    omega
  · have := GE_stuck m jo (j - k)
    rw [show k + (j - k) = j by omega] at this
    omega
end
section
variable {b : Bool} {s1 s2 c1 c2 : Int} {n : Nat} {w1 w2 : Nat → Int} {m : Nat} {pc st zl zh : Nat → Int}
end
end Go.Proofs.Ythagjhadjpangaa.Cx

/- Package die: a job whose spans are narrower, or whose zones are wider, needs no more settings. -/
namespace Go.Proofs.Ythagjhadjpangaa.Cx
set_option linter.unusedVariables false
set_option linter.unusedSimpArgs false
set_option maxRecDepth 100000
set_option maxHeartbeats 4000000
open Go Go.RowKit
theorem GE_more {T : Int} {lo hi lo' hi' : Int → Nat → Int} (m : Late T lo hi) (m' : Late T lo' hi') (hT : 0 ≤ T) (hc : ∀ f n, 0 ≤ f → f < n → n ≤ T → CanP lo hi f n → CanP lo' hi' f n) : ∀ k, GE T lo hi k ≤ GE T lo' hi' k
  | 0 => Int.le_refl _
  | k + 1 => by
    have a := GE_more m m' hT hc k
    have r := GE_rng m hT k
    have r' := GE_rng m' hT k
    have s := GE_rng m hT (k + 1)
    have mo := GE_mono m' (i := k) (k + 1) (by omega)
    by_cases hx : GE T lo hi (k + 1) ≤ GE T lo' hi' k
    · omega
    · have c := (can_iff m r.1 (n := GE T lo hi (k + 1)) (by omega) s.2).2 (by rw [GE]; exact Int.le_refl _)
      have c2 := m'.late _ _ _ r.1 a (by omega) s.2 (hc _ _ r.1 (by omega) s.2 c)
      have := (can_iff m' r'.1 (by omega) s.2).1 c2
      rw [show GE T lo' hi' (k + 1) = GE T lo' hi' k + JO T lo' hi' (GE T lo' hi' k) from rfl]
      exact this
theorem reach_mono {T : Int} {lo hi : Int → Nat → Int} (m : Late T lo hi) {f : Int} (h0 : 0 ≤ f) (h1 : f + 1 < T) : f + JO T lo hi f ≤ f + 1 + JO T lo hi (f + 1) := by
  have s := JO_spec m h0 (by omega)
  have b := s.1
  by_cases hx : f + JO T lo hi f ≤ f + 1
  · omega
  · have c := (can_iff m h0 (n := f + JO T lo hi f) (by omega) (by omega)).2 (Int.le_refl _)
    have c2 := m.late f (f + 1) _ h0 (by omega) (by omega) (by omega) c
    exact (can_iff m (by omega) (by omega) (by omega)).1 c2
section
variable {b : Bool} {s1 s2 c1 c2 : Int} {n : Nat} {w1 w2 : Nat → Int} {m : Nat} {pc st zl zh : Nat → Int} {S2 C1 : Int} {W2 ZH : Nat → Int} {k : Nat} {F G : Nat → Int}
/-- Narrower spans, wider zones. -/
structure Wider (s1 s2 c1 c2 : Int) (n : Nat) (w1 w2 : Nat → Int) (m : Nat) (zh : Nat → Int) (S2 C1 : Int) (W2 ZH : Nat → Int) : Prop where
  s : s1 ≤ S2 ∧ S2 ≤ s2
  c : c1 ≤ C1 ∧ C1 ≤ c2
  w : ∀ i, i < n → w1 i ≤ W2 i ∧ W2 i ≤ w2 i
  z : ∀ i, i < m → zh i ≤ ZH i ∧ ZH i ≤ 10000000000
theorem Wider.job (w : Wider s1 s2 c1 c2 n w1 w2 m zh S2 C1 W2 ZH) (h : JobOk s1 s2 c1 c2 n w1 w2 m pc st zl zh) : JobOk s1 S2 C1 c2 n w1 W2 m pc st zl ZH := by
  obtain ⟨⟨t0, t1, t2, t3⟩, few, ord⟩ := h
  obtain ⟨ws, wc, ww, wz⟩ := w
  unfold VOk at t2 t3
  refine ⟨⟨t0, fun i hi => ?_, by unfold VOk; omega, by unfold VOk; omega⟩, few, fun i hi => ?_⟩
  · have a := t1 i hi
    have b := ww i (by omega)
    unfold VOk at a ⊢
    omega
  · obtain ⟨⟨a1, a2, a3⟩, a4⟩ := ord i hi
    have b := wz i hi
    unfold VOk at a3
    exact ⟨⟨a1, a2, by unfold VOk; omega⟩, a4⟩
theorem Wider.can (w : Wider s1 s2 c1 c2 n w1 w2 m zh S2 C1 W2 ZH) (h : JobOk s1 s2 c1 c2 n w1 w2 m pc st zl zh) {f x : Int} (h0 : 0 ≤ f) (h1 : f < x) (h2 : x ≤ PS pc m) (hc : CanP (loJ b s1 c1 w1 w2 m pc st zl) (hiJ b s2 c2 w1 w2 m pc st zh) f x) : CanP (loJ b s1 C1 w1 W2 m pc st zl) (hiJ b S2 c2 w1 W2 m pc st ZH) f x := by
  have job' := w.job h
  obtain ⟨ws, wc, ww, wz⟩ := w
  unfold CanP loJ hiJ at *
  have p := fun j (hj : j < (x - f).toNat) => h.tbd (a0 := b) (f := f) (j := j) h0 (by omega)
  have p' := fun j (hj : j < (x - f).toNat) => job'.tbd (a0 := b) (f := f) (j := j) h0 (by omega)
  rw [can_pairs (by omega) (fun j hj => by have := p j hj; omega) (fun j hj => by have := p j hj; omega)] at hc
  rw [can_pairs (by omega) (fun j hj => by have := p' j hj; omega) (fun j hj => by have := p' j hj; omega)]
  have lw : ∀ j, j < (x - f).toNat → WSum (gW W2 st pc m) f j ≤ WSum (gW w2 st pc m) f j := fun j hj => WSum_le j fun i hi => by
    have t := h.at' (x := f + i) (by omega) (by omega)
    have := ww (st (ordK pc m (f + i))).toNat (by omega)
    unfold gW
    omega
  intro i j hi hj
  have q := hc i j hi hj
  have li := lw i hi
  have lj := lw j hj
  have t := h.at' (x := f + j) (by omega) (by omega)
  have z := wz (ordK pc m (f + j)) t.1
  unfold tlP thP gL gH at *
  cases b <;> simp only [cond_true, cond_false] at * <;> omega
/-- The plan of a job with narrower spans or wider zones. -/
theorem Wider.plan (w : Wider s1 s2 c1 c2 n w1 w2 m zh S2 C1 W2 ZH) (hC : CkS n m (ToolOk n w1 w2 s1 s2 c1 c2) pc st zl zh 0) (q1 : 0 < PS pc m) (q2 : PS pc m ≤ 150) : AF.fin (dplA b s1 S2 C1 c2 n w1 W2 m pc st zl ZH) = true ∧ ∃ v, AF.val (dplA b s1 S2 C1 c2 n (fun i => w1 i) (fun i => W2 i) m (fun i => pc i) (fun i => st i) (fun i => zl i) (fun i => ZH i)) = v ∧
    (∀ F G : Nat → Int, Chn (PS pc m) (loJ b s1 c1 w1 w2 m pc st zl) (hiJ b s2 c2 w1 w2 m pc st zh) k (PS pc m) F G → dplw1 v = 0 ∧ dplw0 v ≤ k) := by
  have hn := hC.ok
  have job := hC.job
  have job' := w.job job
  obtain ⟨pf, e, hC', pv⟩ := dpl_val (a0 := b) (a1 := s1) (a2 := S2) (a3 := C1) (a4 := c2) (a5 := n) (a6 := w1) (a7 := W2) (a8 := m) (a9 := pc) (a10 := st) (a11 := zl) (a12 := ZH) (by omega) (by omega) (fun _ => by omega)
  have hC2 : CkS n m (ToolOk n w1 W2 s1 S2 C1 c2) pc st zl ZH 0 := .inr ⟨by omega, 0, .inr ⟨by omega, .inl ⟨job'.tool, rfl⟩⟩, .inr ⟨rfl, .inr ⟨job'.ord, .inr ⟨by omega, rfl⟩⟩⟩⟩
  obtain rfl := hC'.same hC2
  replace pv := (pv.resolve_left (fun q => q.1 rfl)).2
  refine ⟨pf, _, rfl, fun F G ch => ?_⟩
  have l1 := job.late (a0 := b)
  have l2 := job'.late (a0 := b)
  have g1 := (ch.ge l1 (by omega)).1
  have g2 := GE_more l1 l2 (by omega) (fun f x h0 h1 h2 hc => w.can job h0 h1 h2 hc) k
  have r2 := GE_rng l2 (by omega) k
  rcases pv with ⟨stk, pv⟩ | ⟨k', F', G', c', pv⟩
  · have := stk.less l2 (by omega) k
    omega
  · have pvE : AF.val (dplA b s1 S2 C1 c2 n (fun i => w1 i) (fun i => W2 i) m (fun i => pc i) (fun i => st i) (fun i => zl i) (fun i => ZH i)) = _ := pv
    rw [pvE]
    refine ⟨rfl, ?_⟩
    show k' ≤ k
    by_cases hk : k' ≤ k
    · exact hk
    · have a := (c'.ge l2 (by omega)).2 k (by omega)
      have b := GE_rng l2 (by omega) (k + 1)
      omega
end
end Go.Proofs.Ythagjhadjpangaa.Cx

/- acme/acmelaw07.DieMore as an automaton. Made by tools/cxauto.py. -/
namespace Go.Proofs.Ythagjhadjpangaa.Cx
set_option linter.unusedVariables false
set_option linter.unusedSimpArgs false
set_option maxRecDepth 100000
open Go Go.Proofs Go.RowKit
noncomputable abbrev dlqCode : Code := funcCode Try.f10
inductive dlqN where
  | n0 (p0 : Nat) (p1 p2 p3 : Int) (p4 : Bool) (p5 p6 p7 p8 : Int) (p9 p10 : Nat) (p11 p12 p13 p14 : Nat → Int) (p15 : Nat) (p16 p17 : Nat → Int)
  | n1 (p0 : Nat) (p1 p2 p3 : Int) (p4 : Bool) (p5 p6 p7 p8 : Int) (p9 p10 : Nat) (p11 p12 p13 p14 : Nat → Int) (p15 : Nat) (p16 p17 : Nat → Int)
  | n2 (p0 : Nat) (p1 : Int) (p2 p3 : Nat) (p4 : Int) (p5 : Nat) (p6 p7 : Nat → Int) (p8 : Bool) (p9 p10 p11 p12 : Int) (p13 p14 p15 : Nat) (p16 p17 p18 p19 : Nat → Int) (p20 : Nat) (p21 p22 : Nat → Int)
  | n3 (p0 : Nat) (p1 : Int) (p2 p3 : Nat) (p4 : Int) (p5 : Nat) (p6 p7 : Nat → Int) (p8 : Bool) (p9 p10 p11 p12 : Int) (p13 p14 p15 : Nat) (p16 p17 p18 p19 : Nat → Int) (p20 : Nat) (p21 p22 : Nat → Int)
abbrev dlqR := Bool
noncomputable def dlqD0 (a0 : Bool) (a1 a2 : Int) (a3 : Nat) (a4 a5 : Nat → Int) (a6 : Nat) (a7 a8 a9 a10 : Nat → Int) (a11 : Nat) (a12 : Nat → Int) (a13 : Int) : DD (Lf dlqN dlqR) :=
 let z0 := decide (0 + a3 ≤ a3)
 let z1 := fun i => [CV.int IntKind.u8 (IE.x (a4 (0 + i))), CV.int IntKind.u8 (IE.x (a5 (0 + i)))]
 let z2 := ShapeOk [some IntKind.u8, some IntKind.u8] (tabOf a3 z1) z1
 let z3 := decide (0 + a6 ≤ a6)
 let z4 := fun i => [CV.int IntKind.u8 (IE.x (a7 (0 + i))), CV.int IntKind.u8 (IE.x (a8 (0 + i))), CV.int IntKind.u8 (IE.x (a9 (0 + i))), CV.int IntKind.u8 (IE.x (a10 (0 + i)))]
 let z5 := ShapeOk [some IntKind.u8, some IntKind.u8, some IntKind.u8, some IntKind.u8] (tabOf a6 z4) z4
 let z6 := decide (0 + a11 ≤ a11)
 let z7 := fun i => [CV.int IntKind.u8 (IE.x (a12 (0 + i)))]
 let z8 := ShapeOk [some IntKind.u8] (tabOf a11 z7) z7
 let z9 := fun i => a4 (0 + i)
 let z10 := fun i => a5 (0 + i)
 let z11 := fun i => a7 (0 + i)
 let z12 := fun i => a8 (0 + i)
 let z13 := fun i => a9 (0 + i)
 let z14 := fun i => a10 (0 + i)
 let z15 := fun i => a12 (0 + i)
 let z16 := dtoA a0 a1 a2 a3 z9 z10 a6 z11 z12 z13 z14 a11 z15
 let z17 := dosA a0 a1 a2 a3 z9 z10 a6 z11 z12 z13 z14 a11 z15
 let z18 := AF.val z17
 let z19 := dosw0 z18
 let z20 := fun i => [CV.int IntKind.i64 (IE.x (dosw1 z18 (0 + i))), CV.int IntKind.i64 (IE.x (dosw2 z18 (0 + i))), CV.int IntKind.i64 (IE.x (dosw3 z18 (0 + i))), CV.int IntKind.i64 (IE.x (dosw4 z18 (0 + i)))]
 let z21 := dalA z19 (fun i => dosw1 z18 (0 + i)) (fun i => dosw2 z18 (0 + i)) (fun i => dosw3 z18 (0 + i)) (fun i => dosw4 z18 (0 + i))
 let z22 := AF.val z16
 let z23 := dtow5 z22
 .must z0
   (.must z2
   (.must z3
   (.must z5
   (.must z6
   (.must z8
   (.must (AF.fin z16)
   (.must z0
   (.must z2
   (.must z3
   (.must z5
   (.must z6
   (.must z8
   (.must (AF.fin z17)
   (.must (decide (0 + dosw0 z18 ≤ dosw0 z18))
   (.must (ShapeOk [some IntKind.i64, some IntKind.i64, some IntKind.i64, some IntKind.i64] (tabOf z19 z20) z20)
   (.must (AF.fin z21)
   (.leaf (.next (.n0 z19 (AF.val z21) 0 0 (dtow0 z22) (dtow1 z22) (dtow2 z22) (dtow3 z22) (dtow4 z22) z23 z19 (fun i => dosw1 z18 i) (fun i => dosw2 z18 i) (fun i => dosw3 z18 i) (fun i => dosw4 z18 i) z23 (fun i => dtow6 z22 i) (fun i => dtow7 z22 i)) [6, 5, 4]))))))))))))))))))

noncomputable def dlqD (a0 : Bool) (a1 a2 : Int) (a3 : Nat) (a4 a5 : Nat → Int) (a6 : Nat) (a7 a8 a9 a10 : Nat → Int) (a11 : Nat) (a12 : Nat → Int) (a13 : Int) : dlqN → DD (Lf dlqN dlqR)
 | .n0 p0 p1 p2 p3 p4 p5 p6 p7 p8 p9 p10 p11 p12 p13 p14 p15 p16 p17 =>
 let z0 := fun i => [CV.int IntKind.i64 (IE.x (p16 (0 + (0 + i)))), CV.int IntKind.i64 (IE.x (p17 (0 + (0 + i))))]
 let z1 := fun i => [CV.int IntKind.i64 (IE.x (p11 (0 + (0 + i)))), CV.int IntKind.i64 (IE.x (p12 (0 + (0 + i)))), CV.int IntKind.i64 (IE.x (p13 (0 + (0 + i)))), CV.int IntKind.i64 (IE.x (p14 (0 + (0 + i))))]
 let z2 := dmoA p4 p5 p6 p7 p8 p9 (fun i => p16 (0 + (0 + i))) (fun i => p17 (0 + (0 + i))) p0 (fun i => p11 (0 + (0 + i))) (fun i => p12 (0 + (0 + i))) (fun i => p13 (0 + (0 + i))) (fun i => p14 (0 + (0 + i))) p3
 let z3 := AF.val z2
 let z4 := Prod.fst z3
 let z5 := Ar.run .add .i64 p3 1
 let z6 := fun i => p11 i
 let z7 := fun i => p12 i
 let z8 := fun i => p13 i
 let z9 := fun i => p14 i
 let z10 := fun i => p16 i
 let z11 := fun i => p17 i
 .ask (Cm.run .lss p3 6)
   (.must (decide (0 + p9 ≤ p15))
   (.must (decide (p9 ≤ 10000))
   (.must (decide (0 + p0 ≤ p10))
   (.must (decide (p0 ≤ 10000))
   (.must (decide (0 + p9 ≤ p9))
   (.must (ShapeOk [some IntKind.i64, some IntKind.i64] (tabOf p9 z0) z0)
   (.must (decide (p9 ≤ p9))
   (.must (decide (0 + p0 ≤ p0))
   (.must (ShapeOk [some IntKind.i64, some IntKind.i64, some IntKind.i64, some IntKind.i64] (tabOf p0 z1) z1)
   (.must (decide (p0 ≤ p0))
   (.must (AF.fin z2)
   (.ask (Cm.run .neq (Prod.snd z3) 0)
   (.leaf (.done false []))
   (.ask (Cm.run .lss z4 p2)
   (.leaf (.done false []))
   (.ask (Cm.run .gtr z4 p1)
   (.leaf (.done false []))
   (.ask (Cm.run .eql p3 0)
   (.ask (Cm.run .neq z4 0)
   (.leaf (.done false []))
   (.leaf (.next (.n0 p0 p1 z4 z5 p4 p5 p6 p7 p8 p9 p10 z6 z7 z8 z9 p15 z10 z11) [3, 4, 5])))
   (.leaf (.next (.n0 p0 p1 z4 z5 p4 p5 p6 p7 p8 p9 p10 z6 z7 z8 z9 p15 z10 z11) [3, 4, 5])))))))))))))))))
   (.leaf (.next (.n1 p0 p1 0 0 p4 p5 p6 p7 p8 p9 p10 z6 z7 z8 z9 p15 z10 z11) [3, 4, 5]))
 | .n1 p0 p1 p2 p3 p4 p5 p6 p7 p8 p9 p10 p11 p12 p13 p14 p15 p16 p17 =>
 let z0 := decide (0 + p9 ≤ p15)
 let z1 := decide (p9 ≤ 10000)
 let z2 := decide (0 + p0 ≤ p10)
 let z3 := decide (p0 ≤ 10000)
 let z4 := decide (0 + p9 ≤ p9)
 let z5 := fun i => [CV.int IntKind.i64 (IE.x (p16 (0 + (0 + i)))), CV.int IntKind.i64 (IE.x (p17 (0 + (0 + i))))]
 let z6 := ShapeOk [some IntKind.i64, some IntKind.i64] (tabOf p9 z5) z5
 let z7 := decide (p9 ≤ p9)
 let z8 := decide (0 + p0 ≤ p0)
 let z9 := fun i => [CV.int IntKind.i64 (IE.x (p11 (0 + (0 + i)))), CV.int IntKind.i64 (IE.x (p12 (0 + (0 + i)))), CV.int IntKind.i64 (IE.x (p13 (0 + (0 + i)))), CV.int IntKind.i64 (IE.x (p14 (0 + (0 + i))))]
 let z10 := ShapeOk [some IntKind.i64, some IntKind.i64, some IntKind.i64, some IntKind.i64] (tabOf p0 z9) z9
 let z11 := decide (p0 ≤ p0)
 let z12 := fun i => p16 (0 + (0 + i))
 let z13 := fun i => p17 (0 + (0 + i))
 let z14 := fun i => p11 (0 + (0 + i))
 let z15 := fun i => p12 (0 + (0 + i))
 let z16 := fun i => p13 (0 + (0 + i))
 let z17 := fun i => p14 (0 + (0 + i))
 let z18 := draA p4 p5 p6 p7 p8 p9 z12 z13 p0 z14 z15 z16 z17 p3
 let z19 := AF.val z18
 let z20 := Prod.fst z19
 let z21 := dplA p4 p5 p6 p7 p8 p9 z12 z13 p0 z14 z15 z16 z17
 let z22 := Ar.run .rem .u8 a13 4
 let z23 := Ar.run .conv .i64 a13 0
 let z24 := dplA p4 p5 (Ar.run .mx .i64 p5 (Ar.run .sub .i64 p6 (Ar.run .quo .i64 z23 4))) p7 p8 p9 z12 z13 p0 z14 z15 z16 z17
 let z25 := AF.val z21
 let z26 := dplw1 z25
 let z27 := Cm.run .neq z26 0
 let z28 := AF.val z24
 let z29 := dplw0 z25
 let z30 := (↑z29 : Int)
 let z31 := dplA p4 p5 p6 (Ar.run .mn .i64 p8 (Ar.run .add .i64 p7 (Ar.run .quo .i64 z23 8))) p8 p9 z12 z13 p0 z14 z15 z16 z17
 let z32 := AF.val z31
 let z33 := fun i => dplw2 z25 i
 let z34 := fun i => dplw3 z25 i
 let z35 := fun i => p11 (0 + i)
 let z36 := fun i => p12 (0 + i)
 let z37 := fun i => p13 (0 + i)
 let z38 := fun i => p14 (0 + i)
 let z39 := fun i => p16 (0 + i)
 let z40 := fun i => p17 (0 + i)
 .ask (Cm.run .lss p3 p1)
   (.must z0
   (.must z1
   (.must z2
   (.must z3
   (.must z4
   (.must z6
   (.must z7
   (.must z8
   (.must z10
   (.must z11
   (.must (AF.fin z18)
   (.ask (Cm.run .neq (Prod.snd z19) 0)
   (.leaf (.done false []))
   (.ask (Cm.run .lss z20 p3)
   (.leaf (.done false []))
   (.ask (Cm.run .gtr z20 p1)
   (.leaf (.done false []))
   (.ask (Cm.run .lss z20 p2)
   (.leaf (.done false []))
   (.leaf (.next (.n1 p0 p1 z20 (Ar.run .add .i64 p3 1) p4 p5 p6 p7 p8 p9 p10 (fun i => p11 i) (fun i => p12 i) (fun i => p13 i) (fun i => p14 i) p15 (fun i => p16 i) (fun i => p17 i)) [3, 4, 5])))))))))))))))))
   (.must z0
   (.must z1
   (.must z2
   (.must z3
   (.must z4
   (.must z6
   (.must z7
   (.must z8
   (.must z10
   (.must z11
   (.must (AF.fin z21)
   (.must z0
   (.must z1
   (.must z2
   (.must z3
   (.ask (Cm.run .eql z22 0)
   (.must z4
   (.must z6
   (.must z7
   (.must z8
   (.must z10
   (.must z11
   (.must (AF.fin z24)
   (.ask z27
   (.leaf (.done true []))
   (.ask (Cm.run .eql (dplw1 z28) 0)
   (.ask (Cm.run .leq (↑(dplw0 z28) : Int) z30)
   (.leaf (.done true []))
   (.leaf (.done false [])))
   (.leaf (.done false [])))))))))))
   (.ask (Cm.run .eql z22 1)
   (.must z4
   (.must z6
   (.must z7
   (.must z8
   (.must z10
   (.must z11
   (.must (AF.fin z31)
   (.ask z27
   (.leaf (.done true []))
   (.ask (Cm.run .eql (dplw1 z32) 0)
   (.ask (Cm.run .leq (↑(dplw0 z32) : Int) z30)
   (.leaf (.done true []))
   (.leaf (.done false [])))
   (.leaf (.done false [])))))))))))
   (.ask (Cm.run .eql z22 2)
   (.leaf (.next (.n3 z29 z26 p0 p0 0 z29 z33 z34 p4 p5 p6 p7 p8 p9 p9 p0 z35 z36 z37 z38 p9 z39 z40) [12, 19, 18, 16]))
   (.leaf (.next (.n2 z29 z26 p0 p0 0 z29 z33 z34 p4 p5 p6 p7 p8 p9 p9 p0 z35 z36 z37 z38 p9 z39 z40) [12, 19, 18, 16]))))))))))))))))))))
 | .n2 p0 p1 p2 p3 p4 p5 p6 p7 p8 p9 p10 p11 p12 p13 p14 p15 p16 p17 p18 p19 p20 p21 p22 =>
 let z0 := decide (0 ≤ p4)
 let z1 := decide (0 + Int.toNat p4 < p15)
 let z2 := fun i => [CV.int IntKind.i64 (IE.x (p21 (0 + i))), CV.int IntKind.i64 (IE.x (p22 (0 + i)))]
 let z3 := fun i => [CV.int IntKind.i64 (IE.x (p16 (0 + i))), CV.int IntKind.i64 (IE.x (p17 (0 + i))), CV.int IntKind.i64 (IE.x (p18 (0 + i))), CV.int IntKind.i64 (IE.x (p19 (0 + i)))]
 let z4 := dplA p8 p9 p10 p11 p12 p13 (fun i => p21 (0 + i)) (fun i => p22 (0 + i)) p2 (fun i => p16 (0 + i)) (fun i => p17 (0 + i)) (fun i => p18 (0 + i)) (fun i => p19 (0 + i))
 let z5 := AF.val z4
 .ask (Cm.run .lss p4 (↑p2 : Int))
   (.must z0
   (.must (decide (p4 < (↑p2 : Int)))
   (.must z1
   (.must z0
   (.must (decide (p4 < (↑p2 : Int)))
   (.must z1
   (.leaf (.next (.n2 p0 p1 p2 p3 (Ar.run .add .i64 p4 1) p5 (fun i => p6 i) (fun i => p7 i) p8 p9 p10 p11 p12 p13 p14 p15 (fun i => p16 i) (fun i => p17 i) (fun i => p18 i) (fun i => bif Nat.beq i (0 + Int.toNat p4) then Ar.run .add .i64 (p19 (0 + Int.toNat p4)) (Ar.run .quo .i64 (Ar.run .conv .i64 a13 0) 4) else p19 i) p20 (fun i => p21 i) (fun i => p22 i)) [3, 4, 5, 6]))))))))
   (.must (decide (0 + p13 ≤ p20))
   (.must (ShapeOk [some IntKind.i64, some IntKind.i64] (tabOf p13 z2) z2)
   (.must (decide (p13 ≤ p14))
   (.must (decide (0 + p2 ≤ p15))
   (.must (ShapeOk [some IntKind.i64, some IntKind.i64, some IntKind.i64, some IntKind.i64] (tabOf p2 z3) z3)
   (.must (decide (p2 ≤ p3))
   (.must (AF.fin z4)
   (.ask (Cm.run .neq p1 0)
   (.leaf (.done true []))
   (.ask (Cm.run .eql (dplw1 z5) 0)
   (.ask (Cm.run .leq (↑(dplw0 z5) : Int) (↑p0 : Int))
   (.leaf (.done true []))
   (.leaf (.done false [])))
   (.leaf (.done false [])))))))))))
 | .n3 p0 p1 p2 p3 p4 p5 p6 p7 p8 p9 p10 p11 p12 p13 p14 p15 p16 p17 p18 p19 p20 p21 p22 =>
 let z0 := decide (0 ≤ p4)
 let z1 := decide (0 + Int.toNat p4 < p20)
 let z2 := fun i => [CV.int IntKind.i64 (IE.x (p21 (0 + i))), CV.int IntKind.i64 (IE.x (p22 (0 + i)))]
 let z3 := fun i => [CV.int IntKind.i64 (IE.x (p16 (0 + i))), CV.int IntKind.i64 (IE.x (p17 (0 + i))), CV.int IntKind.i64 (IE.x (p18 (0 + i))), CV.int IntKind.i64 (IE.x (p19 (0 + i)))]
 let z4 := dplA p8 p9 p10 p11 p12 p13 (fun i => p21 (0 + i)) (fun i => p22 (0 + i)) p2 (fun i => p16 (0 + i)) (fun i => p17 (0 + i)) (fun i => p18 (0 + i)) (fun i => p19 (0 + i))
 let z5 := AF.val z4
 .ask (Cm.run .lss p4 (↑p13 : Int))
   (.must z0
   (.must (decide (p4 < (↑p13 : Int)))
   (.must z1
   (.must z0
   (.must (decide (p4 < (↑p13 : Int)))
   (.must z1
   (.must z0
   (.must (decide (p4 < (↑p13 : Int)))
   (.must z1
   (.leaf (.next (.n3 p0 p1 p2 p3 (Ar.run .add .i64 p4 1) p5 (fun i => p6 i) (fun i => p7 i) p8 p9 p10 p11 p12 p13 p14 p15 (fun i => p16 i) (fun i => p17 i) (fun i => p18 i) (fun i => p19 i) p20 (fun i => p21 i) (fun i => bif Nat.beq i (0 + Int.toNat p4) then Ar.run .mx .i64 (p21 (0 + Int.toNat p4)) (Ar.run .sub .i64 (p22 (0 + Int.toNat p4)) (Ar.run .quo .i64 (Ar.run .conv .i64 a13 0) 16)) else p22 i)) [3, 4, 5, 6])))))))))))
   (.must (decide (0 + p13 ≤ p20))
   (.must (ShapeOk [some IntKind.i64, some IntKind.i64] (tabOf p13 z2) z2)
   (.must (decide (p13 ≤ p14))
   (.must (decide (0 + p2 ≤ p15))
   (.must (ShapeOk [some IntKind.i64, some IntKind.i64, some IntKind.i64, some IntKind.i64] (tabOf p2 z3) z3)
   (.must (decide (p2 ≤ p3))
   (.must (AF.fin z4)
   (.ask (Cm.run .neq p1 0)
   (.leaf (.done true []))
   (.ask (Cm.run .eql (dplw1 z5) 0)
   (.ask (Cm.run .leq (↑(dplw0 z5) : Int) (↑p0 : Int))
   (.leaf (.done true []))
   (.leaf (.done false [])))
   (.leaf (.done false [])))))))))))

noncomputable def dlqA (a0 : Bool) (a1 a2 : Int) (a3 : Nat) (a4 a5 : Nat → Int) (a6 : Nat) (a7 a8 a9 a10 : Nat → Int) (a11 : Nat) (a12 : Nat → Int) (a13 : Int) : AF dlqN dlqR where
  code := dlqCode
  base := 3
  nt := 211
  m := 400
  un := []
  W := []
  h0 := [(0, ⟨.arg a3 2 (fun i => [.int .u8 (.x (a4 i)), .int .u8 (.x (a5 i))]) (fun _ => ⟨rfl, rfl⟩), 2, true, none⟩), (1, ⟨.arg a6 4 (fun i => [.int .u8 (.x (a7 i)), .int .u8 (.x (a8 i)), .int .u8 (.x (a9 i)), .int .u8 (.x (a10 i))]) (fun _ => ⟨rfl, rfl⟩), 4, true, none⟩), (2, ⟨.arg a11 1 (fun i => [.int .u8 (.x (a12 i))]) (fun _ => ⟨rfl, rfl⟩), 1, true, none⟩)]
  args := [.agg [.bool (.x a0), .int .u8 (.x a1), .int .u8 (.x a2), .sla 0 2 0 a3, .sla 1 4 0 a6, .sla 2 1 0 a11], .int .u8 (.x a13)]
  res := (Try.f10).results.toList
  path := fun a => match a with
   | .n0 p0 p1 p2 p3 p4 p5 p6 p7 p8 p9 p10 p11 p12 p13 p14 p15 p16 p17 => [1, 1, 1, 0, 1, 0]
   | .n1 p0 p1 p2 p3 p4 p5 p6 p7 p8 p9 p10 p11 p12 p13 p14 p15 p16 p17 => [1, 1, 1, 1, 1, 0, 1, 0]
   | .n2 p0 p1 p2 p3 p4 p5 p6 p7 p8 p9 p10 p11 p12 p13 p14 p15 p16 p17 p18 p19 p20 p21 p22 => [1, 1, 1, 1, 1, 1, 1, 1, 0, 1, 0, 1, 1, 1, 1, 1, 1, 1, 0]
   | .n3 p0 p1 p2 p3 p4 p5 p6 p7 p8 p9 p10 p11 p12 p13 p14 p15 p16 p17 p18 p19 p20 p21 p22 => [1, 1, 1, 1, 1, 1, 1, 1, 0, 1, 0, 1, 1, 1, 1, 1, 0, 1, 0]
  pd := fun a => match a with
   | .n0 p0 p1 p2 p3 p4 p5 p6 p7 p8 p9 p10 p11 p12 p13 p14 p15 p16 p17 => ⟨[(1, .int .u8 (.x a13)), (5, .ptr (some (3, 0))), (6, .sla 4 4 0 p0), (7, .int .i64 (.x p1)), (8, .int .i64 (.x p2)), (9, .int .i64 (.x p3))], [(3, ⟨.lit [.bool (.x p4), .int .i64 (.x p5), .int .i64 (.x p6), .int .i64 (.x p7), .int .i64 (.x p8), .sla 5 2 0 p9], 0, true, none⟩), (4, ⟨.rows p10 4 (fun i => [.int .i64 (.x (p11 i)), .int .i64 (.x (p12 i)), .int .i64 (.x (p13 i)), .int .i64 (.x (p14 i))]) (fun _ => ⟨rfl, rfl⟩), 4, true, none⟩), (5, ⟨.rows p15 2 (fun i => [.int .i64 (.x (p16 i)), .int .i64 (.x (p17 i))]) (fun _ => ⟨rfl, rfl⟩), 2, true, none⟩)], 6, []⟩
   | .n1 p0 p1 p2 p3 p4 p5 p6 p7 p8 p9 p10 p11 p12 p13 p14 p15 p16 p17 => ⟨[(1, .int .u8 (.x a13)), (5, .ptr (some (3, 0))), (6, .sla 4 4 0 p0), (7, .int .i64 (.x p1)), (8, .int .i64 (.x p2)), (12, .int .i64 (.x p3))], [(3, ⟨.lit [.bool (.x p4), .int .i64 (.x p5), .int .i64 (.x p6), .int .i64 (.x p7), .int .i64 (.x p8), .sla 5 2 0 p9], 0, true, none⟩), (4, ⟨.rows p10 4 (fun i => [.int .i64 (.x (p11 i)), .int .i64 (.x (p12 i)), .int .i64 (.x (p13 i)), .int .i64 (.x (p14 i))]) (fun _ => ⟨rfl, rfl⟩), 4, true, none⟩), (5, ⟨.rows p15 2 (fun i => [.int .i64 (.x (p16 i)), .int .i64 (.x (p17 i))]) (fun _ => ⟨rfl, rfl⟩), 2, true, none⟩)], 6, []⟩
   | .n2 p0 p1 p2 p3 p4 p5 p6 p7 p8 p9 p10 p11 p12 p13 p14 p15 p16 p17 p18 p19 p20 p21 p22 => ⟨[(1, .int .u8 (.x a13)), (15, .sla 3 2 0 p0), (16, .int .i64 (.x p1)), (17, .ptr (some (4, 0))), (18, .slx 5 4 0 p2 p3), (20, .int .i64 (.x p4))], [(3, ⟨.rows p5 2 (fun i => [.int .i64 (.x (p6 i)), .int .i64 (.x (p7 i))]) (fun _ => ⟨rfl, rfl⟩), 2, true, none⟩), (4, ⟨.lit [.bool (.x p8), .int .i64 (.x p9), .int .i64 (.x p10), .int .i64 (.x p11), .int .i64 (.x p12), .slx 6 2 0 p13 p14], 0, true, none⟩), (5, ⟨.rows p15 4 (fun i => [.int .i64 (.x (p16 i)), .int .i64 (.x (p17 i)), .int .i64 (.x (p18 i)), .int .i64 (.x (p19 i))]) (fun _ => ⟨rfl, rfl⟩), 4, true, none⟩), (6, ⟨.rows p20 2 (fun i => [.int .i64 (.x (p21 i)), .int .i64 (.x (p22 i))]) (fun _ => ⟨rfl, rfl⟩), 2, true, none⟩)], 7, []⟩
   | .n3 p0 p1 p2 p3 p4 p5 p6 p7 p8 p9 p10 p11 p12 p13 p14 p15 p16 p17 p18 p19 p20 p21 p22 => ⟨[(1, .int .u8 (.x a13)), (15, .sla 3 2 0 p0), (16, .int .i64 (.x p1)), (17, .ptr (some (4, 0))), (18, .slx 5 4 0 p2 p3), (19, .int .i64 (.x p4))], [(3, ⟨.rows p5 2 (fun i => [.int .i64 (.x (p6 i)), .int .i64 (.x (p7 i))]) (fun _ => ⟨rfl, rfl⟩), 2, true, none⟩), (4, ⟨.lit [.bool (.x p8), .int .i64 (.x p9), .int .i64 (.x p10), .int .i64 (.x p11), .int .i64 (.x p12), .slx 6 2 0 p13 p14], 0, true, none⟩), (5, ⟨.rows p15 4 (fun i => [.int .i64 (.x (p16 i)), .int .i64 (.x (p17 i)), .int .i64 (.x (p18 i)), .int .i64 (.x (p19 i))]) (fun _ => ⟨rfl, rfl⟩), 4, true, none⟩), (6, ⟨.rows p20 2 (fun i => [.int .i64 (.x (p21 i)), .int .i64 (.x (p22 i))]) (fun _ => ⟨rfl, rfl⟩), 2, true, none⟩)], 7, []⟩
  D0 := dlqD0 a0 a1 a2 a3 a4 a5 a6 a7 a8 a9 a10 a11 a12 a13
  D := dlqD a0 a1 a2 a3 a4 a5 a6 a7 a8 a9 a10 a11 a12 a13
  rc := (fun v => .bool (.x v))
  rh := (fun v => [])
  rn := (fun v => 3)
  rx := (fun v => [])
  rgo := (fun _ => none)
theorem dlqstart (a0 : Bool) (a1 a2 : Int) (a3 : Nat) (a4 a5 : Nat → Int) (a6 : Nat) (a7 a8 a9 a10 : Nat → Int) (a11 : Nat) (a12 : Nat → Int) (a13 : Int) : AF.edgeOk (dlqA a0 a1 a2 a3 a4 a5 a6 a7 a8 a9 a10 a11 a12 a13) (ctxOf Try.prog memo0) (dlqD0 a0 a1 a2 a3 a4 a5 a6 a7 a8 a9 a10 a11 a12 a13) (AF.run0 (dlqA a0 a1 a2 a3 a4 a5 a6 a7 a8 a9 a10 a11 a12 a13) (ctxOf Try.prog (memoS 26 dplP dplF dplW dplH 3 (memoS 30 dmoP dmoF dmoW dmoH 2 (memoS 25 draP draF draW draH 2 (memoS 48 dtoP dtoF dtoW dtoH 4 (memoS 49 dosP dosF dosW dosH 4 (memoS 50 dalP dalF dalW dalH 1 (memoB [14]))))))))) := by unfold AF.edgeOk; kernel_rfl
theorem dlqnode0 (a0 : Bool) (a1 a2 : Int) (a3 : Nat) (a4 a5 : Nat → Int) (a6 : Nat) (a7 a8 a9 a10 : Nat → Int) (a11 : Nat) (a12 : Nat → Int) (a13 : Int) (p0 : Nat) (p1 p2 p3 : Int) (p4 : Bool) (p5 p6 p7 p8 : Int) (p9 p10 : Nat) (p11 p12 p13 p14 : Nat → Int) (p15 : Nat) (p16 p17 : Nat → Int) : AF.edgeOk (dlqA a0 a1 a2 a3 a4 a5 a6 a7 a8 a9 a10 a11 a12 a13) (ctxOf Try.prog memo0) (dlqD a0 a1 a2 a3 a4 a5 a6 a7 a8 a9 a10 a11 a12 a13 (.n0 p0 p1 p2 p3 p4 p5 p6 p7 p8 p9 p10 p11 p12 p13 p14 p15 p16 p17)) (AF.runN (dlqA a0 a1 a2 a3 a4 a5 a6 a7 a8 a9 a10 a11 a12 a13) (ctxOf Try.prog (memoS 26 dplP dplF dplW dplH 3 (memoS 30 dmoP dmoF dmoW dmoH 2 (memoS 25 draP draF draW draH 2 (memoS 48 dtoP dtoF dtoW dtoH 4 (memoS 49 dosP dosF dosW dosH 4 (memoS 50 dalP dalF dalW dalH 1 (memoB [14])))))))) (.n0 p0 p1 p2 p3 p4 p5 p6 p7 p8 p9 p10 p11 p12 p13 p14 p15 p16 p17)) := by unfold AF.edgeOk; kernel_rfl
theorem dlqnode1 (a0 : Bool) (a1 a2 : Int) (a3 : Nat) (a4 a5 : Nat → Int) (a6 : Nat) (a7 a8 a9 a10 : Nat → Int) (a11 : Nat) (a12 : Nat → Int) (a13 : Int) (p0 : Nat) (p1 p2 p3 : Int) (p4 : Bool) (p5 p6 p7 p8 : Int) (p9 p10 : Nat) (p11 p12 p13 p14 : Nat → Int) (p15 : Nat) (p16 p17 : Nat → Int) : AF.edgeOk (dlqA a0 a1 a2 a3 a4 a5 a6 a7 a8 a9 a10 a11 a12 a13) (ctxOf Try.prog memo0) (dlqD a0 a1 a2 a3 a4 a5 a6 a7 a8 a9 a10 a11 a12 a13 (.n1 p0 p1 p2 p3 p4 p5 p6 p7 p8 p9 p10 p11 p12 p13 p14 p15 p16 p17)) (AF.runN (dlqA a0 a1 a2 a3 a4 a5 a6 a7 a8 a9 a10 a11 a12 a13) (ctxOf Try.prog (memoS 26 dplP dplF dplW dplH 3 (memoS 30 dmoP dmoF dmoW dmoH 2 (memoS 25 draP draF draW draH 2 (memoS 48 dtoP dtoF dtoW dtoH 4 (memoS 49 dosP dosF dosW dosH 4 (memoS 50 dalP dalF dalW dalH 1 (memoB [14])))))))) (.n1 p0 p1 p2 p3 p4 p5 p6 p7 p8 p9 p10 p11 p12 p13 p14 p15 p16 p17)) := by unfold AF.edgeOk; kernel_rfl
theorem dlqnode2 (a0 : Bool) (a1 a2 : Int) (a3 : Nat) (a4 a5 : Nat → Int) (a6 : Nat) (a7 a8 a9 a10 : Nat → Int) (a11 : Nat) (a12 : Nat → Int) (a13 : Int) (p0 : Nat) (p1 : Int) (p2 p3 : Nat) (p4 : Int) (p5 : Nat) (p6 p7 : Nat → Int) (p8 : Bool) (p9 p10 p11 p12 : Int) (p13 p14 p15 : Nat) (p16 p17 p18 p19 : Nat → Int) (p20 : Nat) (p21 p22 : Nat → Int) : AF.edgeOk (dlqA a0 a1 a2 a3 a4 a5 a6 a7 a8 a9 a10 a11 a12 a13) (ctxOf Try.prog memo0) (dlqD a0 a1 a2 a3 a4 a5 a6 a7 a8 a9 a10 a11 a12 a13 (.n2 p0 p1 p2 p3 p4 p5 p6 p7 p8 p9 p10 p11 p12 p13 p14 p15 p16 p17 p18 p19 p20 p21 p22)) (AF.runN (dlqA a0 a1 a2 a3 a4 a5 a6 a7 a8 a9 a10 a11 a12 a13) (ctxOf Try.prog (memoS 26 dplP dplF dplW dplH 3 (memoS 30 dmoP dmoF dmoW dmoH 2 (memoS 25 draP draF draW draH 2 (memoS 48 dtoP dtoF dtoW dtoH 4 (memoS 49 dosP dosF dosW dosH 4 (memoS 50 dalP dalF dalW dalH 1 (memoB [14])))))))) (.n2 p0 p1 p2 p3 p4 p5 p6 p7 p8 p9 p10 p11 p12 p13 p14 p15 p16 p17 p18 p19 p20 p21 p22)) := by unfold AF.edgeOk; kernel_rfl
theorem dlqnode3 (a0 : Bool) (a1 a2 : Int) (a3 : Nat) (a4 a5 : Nat → Int) (a6 : Nat) (a7 a8 a9 a10 : Nat → Int) (a11 : Nat) (a12 : Nat → Int) (a13 : Int) (p0 : Nat) (p1 : Int) (p2 p3 : Nat) (p4 : Int) (p5 : Nat) (p6 p7 : Nat → Int) (p8 : Bool) (p9 p10 p11 p12 : Int) (p13 p14 p15 : Nat) (p16 p17 p18 p19 : Nat → Int) (p20 : Nat) (p21 p22 : Nat → Int) : AF.edgeOk (dlqA a0 a1 a2 a3 a4 a5 a6 a7 a8 a9 a10 a11 a12 a13) (ctxOf Try.prog memo0) (dlqD a0 a1 a2 a3 a4 a5 a6 a7 a8 a9 a10 a11 a12 a13 (.n3 p0 p1 p2 p3 p4 p5 p6 p7 p8 p9 p10 p11 p12 p13 p14 p15 p16 p17 p18 p19 p20 p21 p22)) (AF.runN (dlqA a0 a1 a2 a3 a4 a5 a6 a7 a8 a9 a10 a11 a12 a13) (ctxOf Try.prog (memoS 26 dplP dplF dplW dplH 3 (memoS 30 dmoP dmoF dmoW dmoH 2 (memoS 25 draP draF draW draH 2 (memoS 48 dtoP dtoF dtoW dtoH 4 (memoS 49 dosP dosF dosW dosH 4 (memoS 50 dalP dalF dalW dalH 1 (memoB [14])))))))) (.n3 p0 p1 p2 p3 p4 p5 p6 p7 p8 p9 p10 p11 p12 p13 p14 p15 p16 p17 p18 p19 p20 p21 p22)) := by unfold AF.edgeOk; kernel_rfl
theorem dlqok (a0 : Bool) (a1 a2 : Int) (a3 : Nat) (a4 a5 : Nat → Int) (a6 : Nat) (a7 a8 a9 a10 : Nat → Int) (a11 : Nat) (a12 : Nat → Int) (a13 : Int) : (dlqA a0 a1 a2 a3 a4 a5 a6 a7 a8 a9 a10 a11 a12 a13).Ok Try.prog (ctxOf Try.prog (memoS 26 dplP dplF dplW dplH 3 (memoS 30 dmoP dmoF dmoW dmoH 2 (memoS 25 draP draF draW draH 2 (memoS 48 dtoP dtoF dtoW dtoH 4 (memoS 49 dosP dosF dosW dosH 4 (memoS 50 dalP dalF dalW dalH 1 (memoB [14])))))))) where
  regs := by kernel_rfl
  h0 := by kernel_rfl
  start := dlqstart a0 a1 a2 a3 a4 a5 a6 a7 a8 a9 a10 a11 a12 a13
  node := fun a _ => match a with
   | .n0 p0 p1 p2 p3 p4 p5 p6 p7 p8 p9 p10 p11 p12 p13 p14 p15 p16 p17 => dlqnode0 a0 a1 a2 a3 a4 a5 a6 a7 a8 a9 a10 a11 a12 a13 p0 p1 p2 p3 p4 p5 p6 p7 p8 p9 p10 p11 p12 p13 p14 p15 p16 p17
   | .n1 p0 p1 p2 p3 p4 p5 p6 p7 p8 p9 p10 p11 p12 p13 p14 p15 p16 p17 => dlqnode1 a0 a1 a2 a3 a4 a5 a6 a7 a8 a9 a10 a11 a12 a13 p0 p1 p2 p3 p4 p5 p6 p7 p8 p9 p10 p11 p12 p13 p14 p15 p16 p17
   | .n2 p0 p1 p2 p3 p4 p5 p6 p7 p8 p9 p10 p11 p12 p13 p14 p15 p16 p17 p18 p19 p20 p21 p22 => dlqnode2 a0 a1 a2 a3 a4 a5 a6 a7 a8 a9 a10 a11 a12 a13 p0 p1 p2 p3 p4 p5 p6 p7 p8 p9 p10 p11 p12 p13 p14 p15 p16 p17 p18 p19 p20 p21 p22
   | .n3 p0 p1 p2 p3 p4 p5 p6 p7 p8 p9 p10 p11 p12 p13 p14 p15 p16 p17 p18 p19 p20 p21 p22 => dlqnode3 a0 a1 a2 a3 a4 a5 a6 a7 a8 a9 a10 a11 a12 a13 p0 p1 p2 p3 p4 p5 p6 p7 p8 p9 p10 p11 p12 p13 p14 p15 p16 p17 p18 p19 p20 p21 p22
  pd := fun a => match a with
   | .n0 p0 p1 p2 p3 p4 p5 p6 p7 p8 p9 p10 p11 p12 p13 p14 p15 p16 p17 => ⟨(fa_cons rfl (fa_cons rfl (fa_cons rfl (fa_cons rfl (fa_cons rfl (fa_cons rfl fa_nil)))))), (fa_cons ⟨.inl (Nat.le_of_ble_eq_true rfl), rfl, rfl⟩ (fa_cons ⟨.inl (Nat.le_of_ble_eq_true rfl), (fun _ => rfl), rfl⟩ (fa_cons ⟨.inl (Nat.le_of_ble_eq_true rfl), (fun _ => rfl), rfl⟩ fa_nil))), fa_nil, rfl⟩
   | .n1 p0 p1 p2 p3 p4 p5 p6 p7 p8 p9 p10 p11 p12 p13 p14 p15 p16 p17 => ⟨(fa_cons rfl (fa_cons rfl (fa_cons rfl (fa_cons rfl (fa_cons rfl (fa_cons rfl fa_nil)))))), (fa_cons ⟨.inl (Nat.le_of_ble_eq_true rfl), rfl, rfl⟩ (fa_cons ⟨.inl (Nat.le_of_ble_eq_true rfl), (fun _ => rfl), rfl⟩ (fa_cons ⟨.inl (Nat.le_of_ble_eq_true rfl), (fun _ => rfl), rfl⟩ fa_nil))), fa_nil, rfl⟩
   | .n2 p0 p1 p2 p3 p4 p5 p6 p7 p8 p9 p10 p11 p12 p13 p14 p15 p16 p17 p18 p19 p20 p21 p22 => ⟨(fa_cons rfl (fa_cons rfl (fa_cons rfl (fa_cons rfl (fa_cons rfl (fa_cons rfl fa_nil)))))), (fa_cons ⟨.inl (Nat.le_of_ble_eq_true rfl), (fun _ => rfl), rfl⟩ (fa_cons ⟨.inl (Nat.le_of_ble_eq_true rfl), rfl, rfl⟩ (fa_cons ⟨.inl (Nat.le_of_ble_eq_true rfl), (fun _ => rfl), rfl⟩ (fa_cons ⟨.inl (Nat.le_of_ble_eq_true rfl), (fun _ => rfl), rfl⟩ fa_nil)))), fa_nil, rfl⟩
   | .n3 p0 p1 p2 p3 p4 p5 p6 p7 p8 p9 p10 p11 p12 p13 p14 p15 p16 p17 p18 p19 p20 p21 p22 => ⟨(fa_cons rfl (fa_cons rfl (fa_cons rfl (fa_cons rfl (fa_cons rfl (fa_cons rfl fa_nil)))))), (fa_cons ⟨.inl (Nat.le_of_ble_eq_true rfl), (fun _ => rfl), rfl⟩ (fa_cons ⟨.inl (Nat.le_of_ble_eq_true rfl), rfl, rfl⟩ (fa_cons ⟨.inl (Nat.le_of_ble_eq_true rfl), (fun _ => rfl), rfl⟩ (fa_cons ⟨.inl (Nat.le_of_ble_eq_true rfl), (fun _ => rfl), rfl⟩ fa_nil)))), fa_nil, rfl⟩
  le := fun a => match a with
   | .n0 p0 p1 p2 p3 p4 p5 p6 p7 p8 p9 p10 p11 p12 p13 p14 p15 p16 p17 => Nat.le_of_ble_eq_true rfl
   | .n1 p0 p1 p2 p3 p4 p5 p6 p7 p8 p9 p10 p11 p12 p13 p14 p15 p16 p17 => Nat.le_of_ble_eq_true rfl
   | .n2 p0 p1 p2 p3 p4 p5 p6 p7 p8 p9 p10 p11 p12 p13 p14 p15 p16 p17 p18 p19 p20 p21 p22 => Nat.le_of_ble_eq_true rfl
   | .n3 p0 p1 p2 p3 p4 p5 p6 p7 p8 p9 p10 p11 p12 p13 p14 p15 p16 p17 p18 p19 p20 p21 p22 => Nat.le_of_ble_eq_true rfl
  rd := fun v => ⟨⟨fa_nil, fa_nil, fa_nil, rfl⟩, rfl⟩
  wb := rfl
theorem dlqhR {ρ : Env} (a0 : Bool) (a1 a2 : Int) (a3 : Nat) (a4 a5 : Nat → Int) (a6 : Nat) (a7 a8 a9 a10 : Nat → Int) (a11 : Nat) (a12 : Nat → Int) (a13 : Int) (hM : MemoOk Try.prog (ctxOf Try.prog (memoS 26 dplP dplF dplW dplH 3 (memoS 30 dmoP dmoF dmoW dmoH 2 (memoS 25 draP draF draW draH 2 (memoS 48 dtoP dtoF dtoW dtoH 4 (memoS 49 dosP dosF dosW dosH 4 (memoS 50 dalP dalF dalW dalH 1 (memoB [14])))))))) ρ) : ∀ X a q n D, FxOk ρ X → X.base = (dlqA a0 a1 a2 a3 a4 a5 a6 a7 a8 a9 a10 a11 a12 a13).base → X.nt = (dlqA a0 a1 a2 a3 a4 a5 a6 a7 a8 a9 a10 a11 a12 a13).nt → X.W = (dlqA a0 a1 a2 a3 a4 a5 a6 a7 a8 a9 a10 a11 a12 a13).W → (dlqA a0 a1 a2 a3 a4 a5 a6 a7 a8 a9 a10 a11 a12 a13).rgo a = some q → q n = some D → (dlqA a0 a1 a2 a3 a4 a5 a6 a7 a8 a9 a10 a11 a12 a13).RangeOk Try.prog ρ X a D := AF.noRange rfl
theorem dlqctr {ρ : Env} (a0 : Bool) (a1 a2 : Int) (a3 : Nat) (a4 a5 : Nat → Int) (a6 : Nat) (a7 a8 a9 a10 : Nat → Int) (a11 : Nat) (a12 : Nat → Int) (a13 : Int) {n : Nat} {v : dlqR} (hM : MemoOk Try.prog (ctxOf Try.prog (memoS 26 dplP dplF dplW dplH 3 (memoS 30 dmoP dmoF dmoW dmoH 2 (memoS 25 draP draF draW draH 2 (memoS 48 dtoP dtoF dtoW dtoH 4 (memoS 49 dosP dosF dosW dosH 4 (memoS 50 dalP dalF dalW dalH 1 (memoB [14])))))))) ρ) (hv : (dlqA a0 a1 a2 a3 a4 a5 a6 a7 a8 a9 a10 a11 a12 a13).run n = some v) :
    Ctr Try.prog ρ 10 (dlqA a0 a1 a2 a3 a4 a5 a6 a7 a8 a9 a10 a11 a12 a13).args (dlqA a0 a1 a2 a3 a4 a5 a6 a7 a8 a9 a10 a11 a12 a13).H0 (dlqA a0 a1 a2 a3 a4 a5 a6 a7 a8 a9 a10 a11 a12 a13).base (dlqA a0 a1 a2 a3 a4 a5 a6 a7 a8 a9 a10 a11 a12 a13).W ((dlqA a0 a1 a2 a3 a4 a5 a6 a7 a8 a9 a10 a11 a12 a13).rc v) (putH (dlqA a0 a1 a2 a3 a4 a5 a6 a7 a8 a9 a10 a11 a12 a13).H0 ((dlqA a0 a1 a2 a3 a4 a5 a6 a7 a8 a9 a10 a11 a12 a13).rh v ++ (dlqA a0 a1 a2 a3 a4 a5 a6 a7 a8 a9 a10 a11 a12 a13).rx v)) ((dlqA a0 a1 a2 a3 a4 a5 a6 a7 a8 a9 a10 a11 a12 a13).rn v) :=
  AF.ctr try_ok hM (dlqok a0 a1 a2 a3 a4 a5 a6 a7 a8 a9 a10 a11 a12 a13) (fn := Try.f10) Try.func10 rfl rfl (Nat.le_of_ble_eq_true rfl) rfl (dlqhR a0 a1 a2 a3 a4 a5 a6 a7 a8 a9 a10 a11 a12 a13 hM) hv
theorem dlqmem {ρ : Env} : MemoOk Try.prog (ctxOf Try.prog (memoS 26 dplP dplF dplW dplH 3 (memoS 30 dmoP dmoF dmoW dmoH 2 (memoS 25 draP draF draW draH 2 (memoS 48 dtoP dtoF dtoW dtoH 4 (memoS 49 dosP dosF dosW dosH 4 (memoS 50 dalP dalF dalW dalH 1 (memoB [14])))))))) ρ := (memoS_ok (dplknown dplmem) (memoS_ok (dmoknown dmomem) (memoS_ok (draknown dramem) (memoS_ok (dtoknown dtomem) (memoS_ok (dosknown dosmem) (memoS_ok (dalknown dalmem) (memoB_ok (fun f hf => by
    simp only [List.mem_cons, List.not_mem_nil, or_false] at hf
    subst hf
    exact CxKn07_known))))))))
instance : Inhabited dlqR := ⟨false⟩
end Go.Proofs.Ythagjhadjpangaa.Cx

/- DieMore: the law's run. -/
namespace Go.Proofs.Ythagjhadjpangaa.Cx
set_option linter.unusedVariables false
set_option linter.unusedSimpArgs false
set_option maxRecDepth 100000
set_option maxHeartbeats 4000000
open Go Go.RowKit
structure MorJ (b : Bool) (s1 s2 c1 c2 : Int) (n : Nat) (w1 w2 : Nat → Int) (m : Nat) (pc st zl zh : Nat → Int) : Prop where
  ck : CkS n m (ToolOk n w1 w2 s1 s2 c1 c2) pc st zl zh 0
  job : JobOk s1 s2 c1 c2 n w1 w2 m pc st zl zh
  pos : 0 < PS pc m
  few : PS pc m ≤ 150
  zone : ∀ i, i < m → zh i ≤ 1000000
/-- What is known of the plan. -/
def MorP (b : Bool) (s1 s2 c1 c2 : Int) (n : Nat) (w1 w2 : Nat → Int) (m : Nat) (pc st zl zh : Nat → Int) (k : Nat) (e : Int) : Prop := e = 0 → ∃ F G, Chn (PS pc m) (loJ b s1 c1 w1 w2 m pc st zl) (hiJ b s2 c2 w1 w2 m pc st zh) k (PS pc m) F G
def MorI (a13 : Int) : dlqN → Prop
  | .n0 m T last k b s1 s2 c1 c2 n m' pc st zl zh n' w1 w2 => MorJ b s1 s2 c1 c2 n w1 w2 m pc st zl zh ∧ (T = PS pc m ∧ m' = m ∧ n' = n) ∧ 0 ≤ k ∧ k ≤ 6 ∧ last ≤ GE (PS pc m) (loJ b s1 c1 w1 w2 m pc st zl) (hiJ b s2 c2 w1 w2 m pc st zh) k.toNat
  | .n1 m T last f b s1 s2 c1 c2 n m' pc st zl zh n' w1 w2 => MorJ b s1 s2 c1 c2 n w1 w2 m pc st zl zh ∧ (T = PS pc m ∧ m' = m ∧ n' = n) ∧ 0 ≤ f ∧ f ≤ PS pc m ∧ (f < PS pc m → last ≤ f + JO (PS pc m) (loJ b s1 c1 w1 w2 m pc st zl) (hiJ b s2 c2 w1 w2 m pc st zh) f)
  | .n2 k e m m2 i x4 x5 x6 b s1 s2 c1 c2 n n2 m' pc st zl zh' n' w1 w2 => ∃ zh, MorJ b s1 s2 c1 c2 n w1 w2 m pc st zl zh ∧ (m2 = m ∧ n2 = n ∧ m' = m ∧ n' = n) ∧ MorP b s1 s2 c1 c2 n w1 w2 m pc st zl zh k e ∧ 0 ≤ i ∧ i ≤ m ∧ ∀ j : Nat, j < m → zh' j = if (j : Int) < i then zh j + a13 / 4 else zh j
  | .n3 k e m m2 i x4 x5 x6 b s1 s2 c1 c2 n n2 m' pc st zl zh n' w1 w2' => ∃ w2, MorJ b s1 s2 c1 c2 n w1 w2 m pc st zl zh ∧ (m2 = m ∧ n2 = n ∧ m' = m ∧ n' = n) ∧ MorP b s1 s2 c1 c2 n w1 w2 m pc st zl zh k e ∧ 0 ≤ i ∧ i ≤ n ∧ ∀ j : Nat, j < n → w2' j = if (j : Int) < i then max (w1 j) (w2 j - a13 / 16) else w2 j
def dlqM : dlqN → Nat
  | .n0 m T last k b s1 s2 c1 c2 n m' pc st zl zh n' w1 w2 => 2000 + (6 - k).toNat
  | .n1 m T last f b s1 s2 c1 c2 n m' pc st zl zh n' w1 w2 => 1000 + (T - f).toNat
  | .n2 k e m m2 i x4 x5 x6 b s1 s2 c1 c2 n n2 m' pc st zl zh' n' w1 w2 => (m - i).toNat
  | .n3 k e m m2 i x4 x5 x6 b s1 s2 c1 c2 n n2 m' pc st zl zh n' w1 w2' => (n - i).toNat
theorem quo_pos {x k : Int} (h : 0 ≤ x ∧ x ≤ 255) (hk : 1 ≤ k) : Ar.run .quo .i64 x k = x / k ∧ 0 ≤ x / k ∧ x / k ≤ 255 := by
  have q := quo_byte h hk
  have := Int.ediv_le_self k h.1
  omega
theorem dlq_sat (a0 : Bool) (a1 a2 : Int) (a3 : Nat) (a4 a5 : Nat → Int) (a6 : Nat) (a7 a8 a9 a10 : Nat → Int) (a11 : Nat) (a12 : Nat → Int) (a13 : Int) (h1 : 0 ≤ a1 ∧ a1 ≤ 255) (h2 : 0 ≤ a2 ∧ a2 ≤ 255) (h4 : ∀ i, 0 ≤ a4 i ∧ a4 i ≤ 255) (h5 : ∀ i, 0 ≤ a5 i ∧ a5 i ≤ 255) (h7 : ∀ i, 0 ≤ a7 i ∧ a7 i ≤ 255) (h8 : ∀ i, 0 ≤ a8 i ∧ a8 i ≤ 255) (h9 : ∀ i, 0 ≤ a9 i ∧ a9 i ≤ 255) (h10 : ∀ i, 0 ≤ a10 i ∧ a10 i ≤ 255) : DD.sat (MorI a13) (fun v => v = true) (dlqD0 a0 a1 a2 a3 a4 a5 a6 a7 a8 a9 a10 a11 a12 a13) := by
  obtain ⟨of, b, s1, s2, c1, c2, n, w1, w2, tv, tok, ook⟩ := dos_val (a0 := a0) (a3 := a3) (a6 := a6) (a11 := a11) (a12 := a12) h1 h2 h4 h5 h7 h8 h9 h10
  have tf := (dto_val (a0 := a0) (a3 := a3) (a6 := a6) (a7 := a7) (a8 := a8) (a9 := a9) (a10 := a10) (a11 := a11) (a12 := a12) h1 h2 h4 h5).1
  cases hO : AF.val (dosA a0 a1 a2 a3 a4 a5 a6 a7 a8 a9 a10 a11 a12) with
  | r0 => rw [hO] at ook; exact ook.elim
  | r1 m pc st zl zh =>
    rw [hO] at ook
    obtain ⟨hC, job, q1, q2⟩ := made_ok tok ook
    have tvE : AF.val (dtoA a0 a1 a2 a3 (fun i => a4 i) (fun i => a5 i) a6 (fun i => a7 i) (fun i => a8 i) (fun i => a9 i) (fun i => a10 i) a11 (fun i => a12 i)) = _ := tv
    have ovE : AF.val (dosA a0 a1 a2 a3 (fun i => a4 i) (fun i => a5 i) a6 (fun i => a7 i) (fun i => a8 i) (fun i => a9 i) (fun i => a10 i) a11 (fun i => a12 i)) = _ := hO
    obtain ⟨af, av⟩ := dal_val (a0 := m) (a1 := pc) (a2 := st) (a3 := zl) (a4 := zh) job.few job.pc
    have avE : AF.val (dalA m (fun i => pc i) (fun i => st i) (fun i => zl i) (fun i => zh i)) = _ := av
    have hI : MorI a13 (.n0 m (PS pc m) 0 0 b s1 s2 c1 c2 n m pc st zl zh n w1 w2) := ⟨⟨hC, job, q1, q2, fun i hi => by
      have := ook.2 i hi
      unfold OrRow at this
      omega⟩, ⟨rfl, rfl, rfl⟩, Int.le_refl _, by omega, by
      have e : (0 : Int).toNat = 0 := rfl
      rw [e, GE]; exact Int.le_refl _⟩
    unfold dlqD0
    simp only [DD.sat, Nat.zero_add, cmLss, cmLssF, cmLeq, cmLeqF, cmGtr, cmGtrF, cmGeq, cmGeqF, cmEql, cmEqlF, cmNeq, cmNeqF, decide_eq_true_eq, Bool.not_eq_true', Bool.not_eq_false', tvE, ovE, avE, dtow0, dtow1, dtow2, dtow3, dtow4, dtow5, dtow6, dtow7, dosw0, dosw1, dosw2, dosw3, dosw4]
    repeat' (first
      | exact Nat.le_refl _
      | exact shape_ok fun i _ => rfl
      | assumption
      | trivial
      | (intro hx; first | (exfalso; omega) | skip)
      | apply And.intro
      | omega)
theorem dlq_n0 (a0 : Bool) (a1 a2 : Int) (a3 : Nat) (a4 a5 : Nat → Int) (a6 : Nat) (a7 a8 a9 a10 : Nat → Int) (a11 : Nat) (a12 : Nat → Int) (a13 : Int) {b : Bool} {s1 s2 c1 c2 : Int} {n : Nat} {w1 w2 : Nat → Int} {m : Nat} {pc st zl zh : Nat → Int} {last k : Int} (h : MorJ b s1 s2 c1 c2 n w1 w2 m pc st zl zh) (g0 : 0 ≤ k) (g1 : k ≤ 6) (hl : last ≤ GE (PS pc m) (loJ b s1 c1 w1 w2 m pc st zl) (hiJ b s2 c2 w1 w2 m pc st zh) k.toNat) : DD.sat (fun b' => MorI a13 b' ∧ dlqM b' < dlqM (.n0 m (PS pc m) last k b s1 s2 c1 c2 n m pc st zl zh n w1 w2)) (fun v => v = true) (dlqD a0 a1 a2 a3 a4 a5 a6 a7 a8 a9 a10 a11 a12 a13 (.n0 m (PS pc m) last k b s1 s2 c1 c2 n m pc st zl zh n w1 w2)) := by
  have hJ := h
  obtain ⟨hC, job, q1, q2, zo⟩ := h
  have hn := hC.ok
  have late := job.late (a0 := b)
  have gr := GE_rng late (by omega) k.toNat
  unfold dlqD
  by_cases hq : k < 6
  · have ea : Ar.run .add .i64 k 1 = k + 1 := arAdd (by omega)
    obtain ⟨mf, e, hC', mv⟩ := dmo_val (a0 := b) (a1 := s1) (a2 := s2) (a3 := c1) (a4 := c2) (a5 := n) (a6 := w1) (a7 := w2) (a8 := m) (a9 := pc) (a10 := st) (a11 := zl) (a12 := zh) (a13 := k) (by omega) (by omega)
    obtain rfl := hC'.same hC
    replace mv := (mv.resolve_left (fun q => q.1 rfl)).2
    replace mv := (mv.resolve_left (fun q => q.1 (by omega))).2
    have mvE : AF.val (dmoA b s1 s2 c1 c2 n (fun i => w1 i) (fun i => w2 i) m (fun i => pc i) (fun i => st i) (fun i => zl i) (fun i => zh i) k) = _ := mv
    have hI : MorI a13 (.n0 m (PS pc m) (GE (PS pc m) (loJ b s1 c1 w1 w2 m pc st zl) (hiJ b s2 c2 w1 w2 m pc st zh) k.toNat) (k + 1) b s1 s2 c1 c2 n m pc st zl zh n w1 w2) := ⟨hJ, ⟨rfl, rfl, rfl⟩, by omega, by omega, by
      rw [show (k + 1).toNat = k.toNat + 1 by omega]
      exact GE_mono late _ (by omega)⟩
    have hM : dlqM (.n0 m (PS pc m) (GE (PS pc m) (loJ b s1 c1 w1 w2 m pc st zl) (hiJ b s2 c2 w1 w2 m pc st zh) k.toNat) (k + 1) b s1 s2 c1 c2 n m pc st zl zh n w1 w2) < dlqM (.n0 m (PS pc m) last k b s1 s2 c1 c2 n m pc st zl zh n w1 w2) := show 2000 + (6 - (k + 1)).toNat < 2000 + (6 - k).toNat by omega
    have z : k = 0 → GE (PS pc m) (loJ b s1 c1 w1 w2 m pc st zl) (hiJ b s2 c2 w1 w2 m pc st zh) k.toNat = 0 := fun hk => by rw [hk]; rfl
    simp only [DD.sat, Nat.zero_add, cmLss, cmLssF, cmLeq, cmLeqF, cmGtr, cmGtrF, cmGeq, cmGeqF, cmEql, cmEqlF, cmNeq, cmNeqF, decide_eq_true_eq, Bool.not_eq_true', Bool.not_eq_false', mvE, ea]
    generalize GE (PS pc m) (loJ b s1 c1 w1 w2 m pc st zl) (hiJ b s2 c2 w1 w2 m pc st zh) k.toNat = g at *
    repeat' (first
      | exact Nat.le_refl _
      | exact shape_ok fun i _ => rfl
      | assumption
      | trivial
      | (intro hx; first | (exfalso; omega) | skip)
      | apply And.intro
      | omega)
  · have hI : MorI a13 (.n1 m (PS pc m) 0 0 b s1 s2 c1 c2 n m pc st zl zh n w1 w2) := ⟨hJ, ⟨rfl, rfl, rfl⟩, Int.le_refl _, by omega, fun _ => by omega⟩
    have hM : dlqM (.n1 m (PS pc m) 0 0 b s1 s2 c1 c2 n m pc st zl zh n w1 w2) < dlqM (.n0 m (PS pc m) last k b s1 s2 c1 c2 n m pc st zl zh n w1 w2) := show 1000 + (PS pc m - 0).toNat < 2000 + (6 - k).toNat by omega
    simp only [DD.sat, Nat.zero_add, cmLss, cmLssF, cmLeq, cmLeqF, cmGtr, cmGtrF, cmGeq, cmGeqF, cmEql, cmEqlF, cmNeq, cmNeqF, decide_eq_true_eq, Bool.not_eq_true', Bool.not_eq_false']
    repeat' (first
      | exact Nat.le_refl _
      | exact shape_ok fun i _ => rfl
      | assumption
      | trivial
      | (intro hx; first | (exfalso; omega) | skip)
      | apply And.intro
      | omega)
theorem dlq_n1 (a0 : Bool) (a1 a2 : Int) (a3 : Nat) (a4 a5 : Nat → Int) (a6 : Nat) (a7 a8 a9 a10 : Nat → Int) (a11 : Nat) (a12 : Nat → Int) (a13 : Int) (h13 : 0 ≤ a13 ∧ a13 ≤ 255) {b : Bool} {s1 s2 c1 c2 : Int} {n : Nat} {w1 w2 : Nat → Int} {m : Nat} {pc st zl zh : Nat → Int} {last f : Int} (h : MorJ b s1 s2 c1 c2 n w1 w2 m pc st zl zh) (g0 : 0 ≤ f) (g1 : f ≤ PS pc m) (hl : f < PS pc m → last ≤ f + JO (PS pc m) (loJ b s1 c1 w1 w2 m pc st zl) (hiJ b s2 c2 w1 w2 m pc st zh) f) : DD.sat (fun b' => MorI a13 b' ∧ dlqM b' < dlqM (.n1 m (PS pc m) last f b s1 s2 c1 c2 n m pc st zl zh n w1 w2)) (fun v => v = true) (dlqD a0 a1 a2 a3 a4 a5 a6 a7 a8 a9 a10 a11 a12 a13 (.n1 m (PS pc m) last f b s1 s2 c1 c2 n m pc st zl zh n w1 w2)) := by
  have hJ := h
  obtain ⟨hC, job, q1, q2, zo⟩ := h
  have hn := hC.ok
  have late := job.late (a0 := b)
  obtain ⟨t0, t1, t2, t3⟩ := job.tool
  unfold VOk at t2 t3
  unfold dlqD
  by_cases hq : f < PS pc m
  · have ea : Ar.run .add .i64 f 1 = f + 1 := arAdd (by omega)
    obtain ⟨rf, e, hC', rv⟩ := dra_val (a0 := b) (a1 := s1) (a2 := s2) (a3 := c1) (a4 := c2) (a5 := n) (a6 := w1) (a7 := w2) (a8 := m) (a9 := pc) (a10 := st) (a11 := zl) (a12 := zh) (a13 := f) (by omega) (by omega)
    obtain rfl := hC'.same hC
    replace rv := (rv.resolve_left (fun q => q.1 rfl)).2
    replace rv := (rv.resolve_left (fun q => q.1 ⟨g0, hq⟩)).2
    obtain ⟨J, hJ2, rv⟩ := rv
    have ej := JO_of late g0 g1 hJ2
    have rvE : AF.val (draA b s1 s2 c1 c2 n (fun i => w1 i) (fun i => w2 i) m (fun i => pc i) (fun i => st i) (fun i => zl i) (fun i => zh i) f) = _ := rv
    have l := hl hq
    have b1 := hJ2.1
    have nx : f + 1 < PS pc m → f + J ≤ f + 1 + JO (PS pc m) (loJ b s1 c1 w1 w2 m pc st zl) (hiJ b s2 c2 w1 w2 m pc st zh) (f + 1) := fun hx => by
      have := reach_mono late g0 hx
      rw [ej] at this
      exact this
    rw [ej] at l
    have hI : MorI a13 (.n1 m (PS pc m) (f + J) (f + 1) b s1 s2 c1 c2 n m pc st zl zh n w1 w2) := ⟨hJ, ⟨rfl, rfl, rfl⟩, by omega, by omega, nx⟩
    have hM : dlqM (.n1 m (PS pc m) (f + J) (f + 1) b s1 s2 c1 c2 n m pc st zl zh n w1 w2) < dlqM (.n1 m (PS pc m) last f b s1 s2 c1 c2 n m pc st zl zh n w1 w2) := show 1000 + (PS pc m - (f + 1)).toNat < 1000 + (PS pc m - f).toNat by omega
    simp only [DD.sat, Nat.zero_add, cmLss, cmLssF, cmLeq, cmLeqF, cmGtr, cmGtrF, cmGeq, cmGeqF, cmEql, cmEqlF, cmNeq, cmNeqF, decide_eq_true_eq, Bool.not_eq_true', Bool.not_eq_false', rvE, ea]
    clear ej nx
    repeat' (first
      | exact Nat.le_refl _
      | exact shape_ok fun i _ => rfl
      | assumption
      | trivial
      | (intro hx; first | (exfalso; omega) | skip)
      | apply And.intro
      | omega)
  · obtain ⟨pf, e, hC', pv⟩ := dpl_val (a0 := b) (a1 := s1) (a2 := s2) (a3 := c1) (a4 := c2) (a5 := n) (a6 := w1) (a7 := w2) (a8 := m) (a9 := pc) (a10 := st) (a11 := zl) (a12 := zh) (by omega) (by omega) (fun _ => by omega)
    obtain rfl := hC'.same hC
    replace pv := (pv.resolve_left (fun q => q.1 rfl)).2
    have k1 := conv_byte h13
    obtain ⟨u4, u4a, u4b⟩ := quo_pos h13 (show (1 : Int) ≤ 4 by omega)
    obtain ⟨u8, u8a, u8b⟩ := quo_pos h13 (show (1 : Int) ≤ 8 by omega)
    obtain ⟨kk, ee, pvE, hP⟩ : ∃ kk ee, (dplw0 (AF.val (dplA b s1 s2 c1 c2 n (fun i => w1 i) (fun i => w2 i) m (fun i => pc i) (fun i => st i) (fun i => zl i) (fun i => zh i))) = kk ∧ dplw1 (AF.val (dplA b s1 s2 c1 c2 n (fun i => w1 i) (fun i => w2 i) m (fun i => pc i) (fun i => st i) (fun i => zl i) (fun i => zh i))) = ee) ∧ MorP b s1 s2 c1 c2 n w1 w2 m pc st zl zh kk ee := by
      rcases pv with ⟨_, pv⟩ | ⟨k, F, G, c, pv⟩
      · have pvE : AF.val (dplA b s1 s2 c1 c2 n (fun i => w1 i) (fun i => w2 i) m (fun i => pc i) (fun i => st i) (fun i => zl i) (fun i => zh i)) = _ := pv
        exact ⟨0, 7, by rw [pvE]; exact ⟨rfl, rfl⟩, fun hx => by omega⟩
      · have pvE : AF.val (dplA b s1 s2 c1 c2 n (fun i => w1 i) (fun i => w2 i) m (fun i => pc i) (fun i => st i) (fun i => zl i) (fun i => zh i)) = _ := pv
        exact ⟨k, 0, by rw [pvE]; exact ⟨rfl, rfl⟩, fun _ => ⟨F, G, c⟩⟩
    have idw : ∀ i, i < n → w1 i ≤ w2 i ∧ w2 i ≤ w2 i := fun i hi => by
      have := t1 i (by omega)
      unfold VOk at this
      omega
    have idz : ∀ i, i < m → zh i ≤ zh i ∧ zh i ≤ 10000000000 := fun i hi => by have := zo i hi; omega
    have W0 : Wider s1 s2 c1 c2 n w1 w2 m zh (max s1 (s2 - a13 / 4)) c1 w2 zh := ⟨by omega, by omega, idw, idz⟩
    have W1 : Wider s1 s2 c1 c2 n w1 w2 m zh s2 (min c2 (c1 + a13 / 8)) w2 zh := ⟨by omega, by omega, idw, idz⟩
    obtain ⟨f0, v0, e0, r0⟩ := W0.plan (b := b) (pc := pc) (st := st) (zl := zl) hC q1 q2 (k := kk)
    obtain ⟨f1, v1, e1, r1⟩ := W1.plan (b := b) (pc := pc) (st := st) (zl := zl) hC q1 q2 (k := kk)
    have r0' : ee = 0 → dplw1 v0 = 0 ∧ ((dplw0 v0 : Nat) : Int) ≤ kk := fun he => by
      obtain ⟨F, G, c⟩ := hP he
      have := r0 F G c
      omega
    have r1' : ee = 0 → dplw1 v1 = 0 ∧ ((dplw0 v1 : Nat) : Int) ≤ kk := fun he => by
      obtain ⟨F, G, c⟩ := hP he
      have := r1 F G c
      omega
    clear r0 r1
    have ra : Ar.run .rem .u8 a13 4 = a13 % 4 := by
      show a13.tmod 4 = _
      exact Int.tmod_eq_emod_of_nonneg h13.1
    have rb : 0 ≤ a13 % 4 ∧ a13 % 4 < 4 := by omega
    have s0 : Ar.run .sub .i64 s2 (a13 / 4) = s2 - a13 / 4 := arSub (by omega)
    have s8 : Ar.run .add .i64 c1 (a13 / 8) = c1 + a13 / 8 := arAdd (by omega)
    have hI2 : ∀ (x : Nat → Int) (y : Nat → Int), MorI a13 (.n2 kk ee m m 0 kk x y b s1 s2 c1 c2 n n m pc st zl zh n w1 w2) := fun x y => ⟨zh, hJ, ⟨rfl, rfl, rfl, rfl⟩, hP, Int.le_refl _, by omega, fun j hj => by rw [if_neg (by omega)]⟩
    have hI3 : ∀ (x : Nat → Int) (y : Nat → Int), MorI a13 (.n3 kk ee m m 0 kk x y b s1 s2 c1 c2 n n m pc st zl zh n w1 w2) := fun x y => ⟨w2, hJ, ⟨rfl, rfl, rfl, rfl⟩, hP, Int.le_refl _, by omega, fun j hj => by rw [if_neg (by omega)]⟩
    have hM2 : ∀ (x : Nat → Int) (y : Nat → Int), dlqM (.n2 kk ee m m 0 kk x y b s1 s2 c1 c2 n n m pc st zl zh n w1 w2) < dlqM (.n1 m (PS pc m) last f b s1 s2 c1 c2 n m pc st zl zh n w1 w2) := fun x y => show ((m : Int) - 0).toNat < 1000 + (PS pc m - f).toNat by omega
    have hM3 : ∀ (x : Nat → Int) (y : Nat → Int), dlqM (.n3 kk ee m m 0 kk x y b s1 s2 c1 c2 n n m pc st zl zh n w1 w2) < dlqM (.n1 m (PS pc m) last f b s1 s2 c1 c2 n m pc st zl zh n w1 w2) := fun x y => show ((n : Int) - 0).toNat < 1000 + (PS pc m - f).toNat by omega
    simp only [DD.sat, Nat.zero_add, cmLss, cmLssF, cmLeq, cmLeqF, cmGtr, cmGtrF, cmGeq, cmGeqF, cmEql, cmEqlF, cmNeq, cmNeqF, decide_eq_true_eq, Bool.not_eq_true', Bool.not_eq_false', k1, u4, u8, ra, arMx, arMn, s0, s8, pvE.1, pvE.2, e0, e1]
    clear pvE e0 e1 hP
    repeat' (first
      | exact Nat.le_refl _
      | exact shape_ok fun i _ => rfl
      | exact hI2 _ _
      | exact hI3 _ _
      | exact hM2 _ _
      | exact hM3 _ _
      | assumption
      | trivial
      | (intro hx; first | (exfalso; omega) | skip)
      | apply And.intro
      | omega)
theorem dlq_n2 (a0 : Bool) (a1 a2 : Int) (a3 : Nat) (a4 a5 : Nat → Int) (a6 : Nat) (a7 a8 a9 a10 : Nat → Int) (a11 : Nat) (a12 : Nat → Int) (a13 : Int) (h13 : 0 ≤ a13 ∧ a13 ≤ 255) {b : Bool} {s1 s2 c1 c2 : Int} {n : Nat} {w1 w2 : Nat → Int} {m : Nat} {pc st zl zh : Nat → Int} {k : Nat} {e i : Int} {x4 : Nat} {x5 x6 zh' : Nat → Int} (h : MorJ b s1 s2 c1 c2 n w1 w2 m pc st zl zh) (hP : MorP b s1 s2 c1 c2 n w1 w2 m pc st zl zh k e) (g0 : 0 ≤ i) (g1 : i ≤ m) (hz : ∀ j : Nat, j < m → zh' j = if (j : Int) < i then zh j + a13 / 4 else zh j) : DD.sat (fun b' => MorI a13 b' ∧ dlqM b' < dlqM (.n2 k e m m i x4 x5 x6 b s1 s2 c1 c2 n n m pc st zl zh' n w1 w2)) (fun v => v = true) (dlqD a0 a1 a2 a3 a4 a5 a6 a7 a8 a9 a10 a11 a12 a13 (.n2 k e m m i x4 x5 x6 b s1 s2 c1 c2 n n m pc st zl zh' n w1 w2)) := by
  have hJ := h
  obtain ⟨hC, job, q1, q2, zo⟩ := h
  have hn := hC.ok
  have k1 := conv_byte h13
  obtain ⟨u4, u4a, u4b⟩ := quo_pos h13 (show (1 : Int) ≤ 4 by omega)
  unfold dlqD
  by_cases hq : i < m
  · have ea : Ar.run .add .i64 i 1 = i + 1 := arAdd (by omega)
    have zi := hz i.toNat (by omega)
    rw [if_neg (by omega)] at zi
    have zb := zo i.toNat (by omega)
    have zc := (job.ord i.toNat (by omega)).1.2.2
    unfold VOk at zc
    have eb : Ar.run .add .i64 (zh' i.toNat) (a13 / 4) = zh' i.toNat + a13 / 4 := arAdd (by omega)
    have hI : MorI a13 (.n2 k e m m (i + 1) x4 x5 x6 b s1 s2 c1 c2 n n m pc st zl (fun j => bif Nat.beq j i.toNat then zh' i.toNat + a13 / 4 else zh' j) n w1 w2) := ⟨zh, hJ, ⟨rfl, rfl, rfl, rfl⟩, hP, by omega, by omega, fun j hj => by
      dsimp only
      cases hb : Nat.beq j i.toNat with
      | true =>
        obtain rfl : j = i.toNat := Nat.eq_of_beq_eq_true hb
        rw [if_pos (by omega), zi]; rfl
      | false =>
        have hne := Nat.ne_of_beq_eq_false hb
        show zh' j = _
        rw [hz j hj]
        by_cases hji : (j : Int) < i
        · rw [if_pos hji, if_pos (by omega)]
        · rw [if_neg hji, if_neg (by omega)]⟩
    have hM : dlqM (.n2 k e m m (i + 1) x4 x5 x6 b s1 s2 c1 c2 n n m pc st zl (fun j => bif Nat.beq j i.toNat then zh' i.toNat + a13 / 4 else zh' j) n w1 w2) < dlqM (.n2 k e m m i x4 x5 x6 b s1 s2 c1 c2 n n m pc st zl zh' n w1 w2) := show ((m : Int) - (i + 1)).toNat < ((m : Int) - i).toNat by omega
    simp only [DD.sat, Nat.zero_add, cmLss, cmLssF, cmLeq, cmLeqF, cmGtr, cmGtrF, cmGeq, cmGeqF, cmEql, cmEqlF, cmNeq, cmNeqF, decide_eq_true_eq, Bool.not_eq_true', Bool.not_eq_false', k1, u4, ea, eb]
    repeat' (first
      | exact Nat.le_refl _
      | exact shape_ok fun i _ => rfl
      | assumption
      | trivial
      | (intro hx; first | (exfalso; omega) | skip)
      | apply And.intro
      | omega)
  · have t1 := job.tool.2.1
    have W : Wider s1 s2 c1 c2 n w1 w2 m zh s2 c1 w2 zh' := by
      obtain ⟨_, _, t2, t3⟩ := job.tool
      unfold VOk at t2 t3
      refine ⟨by omega, by omega, fun j hj => ?_, fun j hj => ?_⟩
      · have := t1 j (by omega)
        unfold VOk at this
        omega
      · have a := hz j hj
        rw [if_pos (by omega)] at a
        have := zo j hj
        omega
    obtain ⟨f0, v0, e0, r0⟩ := W.plan (b := b) (pc := pc) (st := st) (zl := zl) hC q1 q2 (k := k)
    have r0' : e = 0 → dplw1 v0 = 0 ∧ ((dplw0 v0 : Nat) : Int) ≤ k := fun he => by
      obtain ⟨F, G, c⟩ := hP he
      have := r0 F G c
      omega
    clear r0
    simp only [DD.sat, Nat.zero_add, cmLss, cmLssF, cmLeq, cmLeqF, cmGtr, cmGtrF, cmGeq, cmGeqF, cmEql, cmEqlF, cmNeq, cmNeqF, decide_eq_true_eq, Bool.not_eq_true', Bool.not_eq_false', e0]
    clear e0 hP
    repeat' (first
      | exact Nat.le_refl _
      | exact shape_ok fun i _ => rfl
      | assumption
      | trivial
      | (intro hx; first | (exfalso; omega) | skip)
      | apply And.intro
      | omega)
theorem dlq_n3 (a0 : Bool) (a1 a2 : Int) (a3 : Nat) (a4 a5 : Nat → Int) (a6 : Nat) (a7 a8 a9 a10 : Nat → Int) (a11 : Nat) (a12 : Nat → Int) (a13 : Int) (h13 : 0 ≤ a13 ∧ a13 ≤ 255) {b : Bool} {s1 s2 c1 c2 : Int} {n : Nat} {w1 w2 : Nat → Int} {m : Nat} {pc st zl zh : Nat → Int} {k : Nat} {e i : Int} {x4 : Nat} {x5 x6 w2' : Nat → Int} (h : MorJ b s1 s2 c1 c2 n w1 w2 m pc st zl zh) (hP : MorP b s1 s2 c1 c2 n w1 w2 m pc st zl zh k e) (g0 : 0 ≤ i) (g1 : i ≤ n) (hz : ∀ j : Nat, j < n → w2' j = if (j : Int) < i then max (w1 j) (w2 j - a13 / 16) else w2 j) : DD.sat (fun b' => MorI a13 b' ∧ dlqM b' < dlqM (.n3 k e m m i x4 x5 x6 b s1 s2 c1 c2 n n m pc st zl zh n w1 w2')) (fun v => v = true) (dlqD a0 a1 a2 a3 a4 a5 a6 a7 a8 a9 a10 a11 a12 a13 (.n3 k e m m i x4 x5 x6 b s1 s2 c1 c2 n n m pc st zl zh n w1 w2')) := by
  have hJ := h
  obtain ⟨hC, job, q1, q2, zo⟩ := h
  have hn := hC.ok
  have k1 := conv_byte h13
  obtain ⟨u4, u4a, u4b⟩ := quo_pos h13 (show (1 : Int) ≤ 16 by omega)
  have t1 := job.tool.2.1
  unfold dlqD
  by_cases hq : i < n
  · have ea : Ar.run .add .i64 i 1 = i + 1 := arAdd (by omega)
    have zi := hz i.toNat (by omega)
    rw [if_neg (by omega)] at zi
    have tb := t1 i.toNat (by omega)
    unfold VOk at tb
    have eb : Ar.run .sub .i64 (w2' i.toNat) (a13 / 16) = w2' i.toNat - a13 / 16 := arSub (by omega)
    have hI : MorI a13 (.n3 k e m m (i + 1) x4 x5 x6 b s1 s2 c1 c2 n n m pc st zl zh n w1 (fun j => bif Nat.beq j i.toNat then max (w1 i.toNat) (w2' i.toNat - a13 / 16) else w2' j)) := ⟨w2, hJ, ⟨rfl, rfl, rfl, rfl⟩, hP, by omega, by omega, fun j hj => by
      dsimp only
      cases hb : Nat.beq j i.toNat with
      | true =>
        obtain rfl : j = i.toNat := Nat.eq_of_beq_eq_true hb
        rw [if_pos (by omega), zi]; rfl
      | false =>
        have hne := Nat.ne_of_beq_eq_false hb
        show w2' j = _
        rw [hz j hj]
        by_cases hji : (j : Int) < i
        · rw [if_pos hji, if_pos (by omega)]
        · rw [if_neg hji, if_neg (by omega)]⟩
    have hM : dlqM (.n3 k e m m (i + 1) x4 x5 x6 b s1 s2 c1 c2 n n m pc st zl zh n w1 (fun j => bif Nat.beq j i.toNat then max (w1 i.toNat) (w2' i.toNat - a13 / 16) else w2' j)) < dlqM (.n3 k e m m i x4 x5 x6 b s1 s2 c1 c2 n n m pc st zl zh n w1 w2') := show ((n : Int) - (i + 1)).toNat < ((n : Int) - i).toNat by omega
    simp only [DD.sat, Nat.zero_add, cmLss, cmLssF, cmLeq, cmLeqF, cmGtr, cmGtrF, cmGeq, cmGeqF, cmEql, cmEqlF, cmNeq, cmNeqF, decide_eq_true_eq, Bool.not_eq_true', Bool.not_eq_false', k1, u4, ea, eb, arMx]
    repeat' (first
      | exact Nat.le_refl _
      | exact shape_ok fun i _ => rfl
      | assumption
      | trivial
      | (intro hx; first | (exfalso; omega) | skip)
      | apply And.intro
      | omega)
  · have W : Wider s1 s2 c1 c2 n w1 w2 m zh s2 c1 w2' zh := by
      obtain ⟨_, _, t2, t3⟩ := job.tool
      unfold VOk at t2 t3
      refine ⟨by omega, by omega, fun j hj => ?_, fun j hj => ?_⟩
      · have := t1 j (by omega)
        unfold VOk at this
        have a := hz j hj
        rw [if_pos (by omega)] at a
        omega
      · have := zo j hj
        omega
    obtain ⟨f0, v0, e0, r0⟩ := W.plan (b := b) (pc := pc) (st := st) (zl := zl) hC q1 q2 (k := k)
    have r0' : e = 0 → dplw1 v0 = 0 ∧ ((dplw0 v0 : Nat) : Int) ≤ k := fun he => by
      obtain ⟨F, G, c⟩ := hP he
      have := r0 F G c
      omega
    clear r0
    simp only [DD.sat, Nat.zero_add, cmLss, cmLssF, cmLeq, cmLeqF, cmGtr, cmGtrF, cmGeq, cmGeqF, cmEql, cmEqlF, cmNeq, cmNeqF, decide_eq_true_eq, Bool.not_eq_true', Bool.not_eq_false', e0]
    clear e0 hP
    repeat' (first
      | exact Nat.le_refl _
      | exact shape_ok fun i _ => rfl
      | assumption
      | trivial
      | (intro hx; first | (exfalso; omega) | skip)
      | apply And.intro
      | omega)
theorem dlq_run (a0 : Bool) (a1 a2 : Int) (a3 : Nat) (a4 a5 : Nat → Int) (a6 : Nat) (a7 a8 a9 a10 : Nat → Int) (a11 : Nat) (a12 : Nat → Int) (a13 : Int) (h1 : 0 ≤ a1 ∧ a1 ≤ 255) (h2 : 0 ≤ a2 ∧ a2 ≤ 255) (_ : a3 ≤ 9223372036854775807) (h4 : ∀ i, 0 ≤ a4 i ∧ a4 i ≤ 255) (h5 : ∀ i, 0 ≤ a5 i ∧ a5 i ≤ 255) (_ : a6 ≤ 9223372036854775807) (h7 : ∀ i, 0 ≤ a7 i ∧ a7 i ≤ 255) (h8 : ∀ i, 0 ≤ a8 i ∧ a8 i ≤ 255) (h9 : ∀ i, 0 ≤ a9 i ∧ a9 i ≤ 255) (h10 : ∀ i, 0 ≤ a10 i ∧ a10 i ≤ 255) (h11 : a11 ≤ 9223372036854775807) (h12 : ∀ i, 0 ≤ a12 i ∧ a12 i ≤ 255) (h13 : 0 ≤ a13 ∧ a13 ≤ 255) :
    ∃ n v, AF.run (dlqA a0 a1 a2 a3 a4 a5 a6 a7 a8 a9 a10 a11 a12 a13) n = some v ∧ v = true := by
  refine AF.run_sat (E := fun v => v = true) (Inv := MorI a13) dlqM (fun b => rfl) (fun b h => ?_) (dlq_sat a0 a1 a2 a3 a4 a5 a6 a7 a8 a9 a10 a11 a12 a13 h1 h2 h4 h5 h7 h8 h9 h10)
  cases b with
  | n0 m T last k b s1 s2 c1 c2 n m' pc st zl zh n' w1 w2 =>
    obtain ⟨h, ⟨rfl, rfl, rfl⟩, g0, g1, hl⟩ := h
    exact dlq_n0 a0 a1 a2 a3 a4 a5 a6 a7 a8 a9 a10 a11 a12 a13 h g0 g1 hl
  | n1 m T last f b s1 s2 c1 c2 n m' pc st zl zh n' w1 w2 =>
    obtain ⟨h, ⟨rfl, rfl, rfl⟩, g0, g1, hl⟩ := h
    exact dlq_n1 a0 a1 a2 a3 a4 a5 a6 a7 a8 a9 a10 a11 a12 a13 h13 h g0 g1 hl
  | n2 k e m m2 i x4 x5 x6 b s1 s2 c1 c2 n n2 m' pc st zl zh' n' w1 w2 =>
    obtain ⟨zh, h, ⟨rfl, rfl, rfl, rfl⟩, hP, g0, g1, hz⟩ := h
    exact dlq_n2 a0 a1 a2 a3 a4 a5 a6 a7 a8 a9 a10 a11 a12 a13 h13 h hP g0 g1 hz
  | n3 k e m m2 i x4 x5 x6 b s1 s2 c1 c2 n n2 m' pc st zl zh n' w1 w2' =>
    obtain ⟨w2, h, ⟨rfl, rfl, rfl, rfl⟩, hP, g0, g1, hz⟩ := h
    exact dlq_n3 a0 a1 a2 a3 a4 a5 a6 a7 a8 a9 a10 a11 a12 a13 h13 h hP g0 g1 hz
end Go.Proofs.Ythagjhadjpangaa.Cx

/- ARGUMENTS THAT ARE SLICES: opened as lists; the memory in which they lie as blocks that are read alone; a law's contract as its statement's walk. -/
namespace Go.Proofs.Ythagjhadjpangaa.Cx
set_option linter.unusedSimpArgs false
set_option linter.unusedVariables false
open Go Go.RowKit Go.ChangeShapes Go.WideShapes Go.Deep Go.Proofs.Ythagjhadjpangaa
/-! ## Such slices as blocks -/
section
variable {P : Program} {ρ : Env}
/-- Where a slice's rows lie. -/
noncomputable def locOf (w : World) (v : Value) (z : Nat) : Option Loc :=
  match v with
  | .slice (some a) (_ + 1) _ => match w.heap[a.block]? with
    | some (.cells c _ _) => some ⟨a.block, a.off, c.size, z⟩
    | _ => none
  | _ => none
theorem rows_rel {α : Type} {en : α → List Value} {ec : α → List CV} {d : α} (he : ∀ σ x, VRl ρ σ (ec x) (en x)) (σ : Mp) : ∀ (xs : List α) (n : Nat), n ≤ xs.length → VRl ρ σ (flatR (fun j => ec (xs.getD j d)) n) ((xs.take n).flatMap en)
  | xs, 0, _ => by simpa [flatR] using VRl.nil
  | xs, n + 1, h => by
    have ih := rows_rel (d := d) he σ xs n (by omega)
    rw [flatR, List.take_add_one, List.flatMap_append]
    refine ih.append ?_
    have hn : n < xs.length := by omega
    rw [List.getElem?_eq_getElem hn, List.getD_eq_getElem?_getD, List.getElem?_eq_getElem hn]
    simpa using he σ xs[n]
theorem SlR.rel {α : Type} {en : α → List Value} {ec : α → List CV} {d : α} {z : Nat} {w : World} {v : Value} {xs : List α} {σ : Mp} {b : Nat} (h : SlR en z w v xs) (hz : ∀ x, (en x).length = z) (he : ∀ σ x, VRl ρ σ (ec x) (en x))
    (hk : ∀ j, (ec (xs.getD j d)).length = z ∧ (ec (xs.getD j d)).all CV.flat = true) (hσ : σ b = locOf w v z) :
    VR ρ σ (.sla b z 0 xs.length) v ∧ ArgAt ρ w ⟨.arg xs.length z (fun j => ec (xs.getD j d)) hk, z, true, none⟩ (σ b) := by
  obtain ⟨a, cap, rfl, hcap, _, hx⟩ := h
  have hcl : Blk.cells ⟨.arg xs.length z (fun j => ec (xs.getD j d)) hk, z, true, none⟩ = flatR (fun j => ec (xs.getD j d)) xs.length := rfl
  have hlen := flatR_length (fun j => (hk j).1) xs.length
  rcases hx with rfl | ⟨bl, off, c, t, p, rfl, hh, hsz, hrow⟩
  · refine ⟨.sla0 _ _, rfl, rfl, rfl, fun l hl => ?_⟩
    rw [hσ] at hl
    simp [locOf] at hl
  · cases xs with
    | nil =>
      refine ⟨.sla0 _ _, rfl, rfl, rfl, fun l hl => ?_⟩
      rw [hσ] at hl
      simp [locOf] at hl
    | cons x xs =>
      have hlo : locOf w (.slice (some ⟨bl, off, none⟩) (x :: xs).length cap) z = some ⟨bl, off, c.size, z⟩ := by
        simp [locOf, hh]
      rw [hlo] at hσ
      refine ⟨?_, rfl, rfl, rfl, fun l hl => ?_⟩
      · have := VR.sla (ρ := ρ) (σ := σ) (b := b) (z := z) (o := 0) (n := (x :: xs).length) (c' := cap) hσ hcap
        simpa using this
      · rw [hσ] at hl
        obtain rfl := Option.some.inj hl
        refine ⟨c, t, p, hh, rfl, rfl, by rw [hcl, hlen]; exact hsz, fun τ => ?_⟩
        rw [hcl, hlen, hrow]
        have := rows_rel (ρ := ρ) (d := d) he τ (x :: xs) (x :: xs).length (Nat.le_refl _)
        rwa [List.take_of_length_le (Nat.le_refl _)] at this
/-- A law's contract, as its statement's walk. -/
theorem Ctr.law {f : Nat} {args : List CV} {h0 h1 : Tr Blk} {base n1 : Nat} {e : BE} {w : World} {σ : Mp} {args' : Array Value} (K : Ctr P ρ f args h0 base [] (.bool e) h1 n1) (he : e.den ρ = true) (ha : VRl ρ σ args args'.toList) (hH : HR ρ σ (curOf h0 base) w) (hN : ∀ b, base ≤ b → σ b = none) :
    Calls P f args' w fun e w' => e = .returned (.bool true) ∧ Below w.heap.size w w' := by
  refine ((K.run 0 σ w args' ha hH hN).calls (fun k d h => by cases h)).mono ?_
  rintro e' w' ⟨v, rfl, σ', h1, h2, h3, h4, h5⟩
  cases h2
  refine ⟨by rw [he], h4.os, h4.tape, h4.output, h4.size, fun k hk => h4.block k hk (fun b hb l hl => ?_)⟩
  rcases hb with hb | hb
  · cases hb
  · rw [hN b hb] at hl; cases hl
end
end Go.Proofs.Ythagjhadjpangaa.Cx

/- ARGUMENTS OF LAWS, OPENED BY THEIR TYPES: integers, bools, structs, arrays, and slices of rows of integers and bools (a table each); the memory in which these lie. -/
namespace Go.Proofs.Ythagjhadjpangaa.Cx
set_option linter.unusedSimpArgs false
set_option linter.unusedVariables false
open Go Go.RowKit Go.ChangeShapes Go.WideShapes Go.Deep Go.Proofs.Ythagjhadjpangaa
/-! ## What the cells of a type are -/
inductive CK where
  | int (k : IntKind)
  | bool
  | tab (ks : List (Option IntKind))
def flatCK : List CK → Option (List (Option IntKind))
  | [] => some []
  | .int k :: l => match flatCK l with | some m => some (some k :: m) | none => none
  | .bool :: l => match flatCK l with | some m => some (none :: m) | none => none
  | .tab _ :: _ => none
def ckFs (P : Program) (f : TypeId → Option (List CK)) : Nat → List Field → Option (List CK)
  | _, [] => some []
  | off, fd :: l => match f fd.type with
    | some ks => bif Nat.beq fd.offset off && Nat.beq (P.cellsOf fd.type) ks.length then (match ckFs P f (off + ks.length) l with | some m => some (ks ++ m) | none => none) else none
    | none => none
def repL {α : Type} : Nat → List α → List α
  | 0, _ => []
  | n + 1, l => repL n l ++ l
def ckOf (P : Program) : Nat → TypeId → Option (List CK)
  | 0, _ => none
  | d + 1, t => match P.underlying t with
    | some (.int k) => some [.int k]
    | some .bool => some [.bool]
    | some (.struct fs) => match ckFs P (ckOf P d) 0 fs.toList with
      | some ks => bif Nat.beq (P.cellsOf t) ks.length then some ks else none
      | none => none
    | some (.array n e) => match ckOf P d e with
      | some ks => bif Nat.beq (P.cellsOf e) ks.length && Nat.beq (P.cellsOf t) (n * ks.length) then some (repL n ks) else none
      | none => none
    | some (.slice e) => match ckOf P d e with
      | some ks => match flatCK ks with
        | some l => bif Nat.beq (P.cellsOf e) l.length && Nat.blt 0 l.length then some [.tab l] else none
        | none => none
      | none => none
    | _ => none
/-! ## Rows -/
/-- The cells of a row: integers and bools, by their places. -/
structure RowV where
  c : Nat → Int
  g : Nat → Bool
def RowV.zero : RowV := ⟨fun _ => 0, fun _ => false⟩
def enV (r : RowV) : List (Option IntKind) → Nat → List Value
  | [], _ => []
  | some k :: ks, j => .int k (r.c j) :: enV r ks (j + 1)
  | none :: ks, j => .bool (r.g j) :: enV r ks (j + 1)
def okV (ks : List (Option IntKind)) (r : RowV) : Prop := ∀ j k, ks[j]? = some (some k) → (Lit.int k (r.c j)).wf = true
theorem enV_length (r : RowV) : ∀ (ks : List (Option IntKind)) (j : Nat), (enV r ks j).length = ks.length
  | [], _ => rfl
  | some k :: ks, j => congrArg Nat.succ (enV_length r ks (j + 1))
  | none :: ks, j => congrArg Nat.succ (enV_length r ks (j + 1))
/-- The cells of an argument: such, and slices of rows. -/
structure RowW where
  c : Nat → Int
  g : Nat → Bool
  s : Nat → Value
  t : Nat → List RowV
def enW (r : RowW) : List CK → Nat → List Value
  | [], _ => []
  | .int k :: ks, j => .int k (r.c j) :: enW r ks (j + 1)
  | .bool :: ks, j => .bool (r.g j) :: enW r ks (j + 1)
  | .tab _ :: ks, j => r.s j :: enW r ks (j + 1)
/-- A slice of such rows. -/
def SlT (ks : List (Option IntKind)) (w : World) (v : Value) (xs : List RowV) : Prop := SlR (fun r => enV r ks 0) ks.length w v xs ∧ ∀ x ∈ xs, okV ks x
def cellW (w : World) : CK → Value → Prop
  | .int k, v => ∃ z, v = .int k z ∧ (Lit.int k z).wf = true
  | .bool, v => ∃ b, v = .bool b
  | .tab ks, v => ∃ xs, SlT ks w v xs
inductive Mt (w : World) : List CK → List Value → Prop
  | nil : Mt w [] []
  | cons {k : CK} {v : Value} {ks : List CK} {vs : List Value} (h : cellW w k v) (t : Mt w ks vs) : Mt w (k :: ks) (v :: vs)
theorem Mt.append {w : World} {a b : List CK} {x y : List Value} (h : Mt w a x) (h' : Mt w b y) : Mt w (a ++ b) (x ++ y) := by
  induction h with
  | nil => exact h'
  | cons h _ ih => exact .cons h ih
theorem Mt.length {w : World} {a : List CK} {x : List Value} (h : Mt w a x) : x.length = a.length := by
  induction h with
  | nil => rfl
  | cons h _ ih => simp [ih]
/-- What the cells' places hold. -/
noncomputable def rowW (w : World) (ks : List CK) (vs : List Value) : RowW :=
  ⟨fun j => match vs[j]? with | some (.int _ z) => z | _ => 0, fun j => match vs[j]? with | some (.bool b) => b | _ => false, fun j => vs.getD j (.bool false),
   fun j => match ks[j]? with | some (.tab l) => @dite _ (∃ xs, SlT l w (vs.getD j (.bool false)) xs) (Classical.propDecidable _) (fun h => Classical.choose h) (fun _ => []) | _ => []⟩
def okW (w : World) (ks : List CK) (r : RowW) : Prop := (∀ j k, ks[j]? = some (.int k) → (Lit.int k (r.c j)).wf = true) ∧ ∀ j l, ks[j]? = some (.tab l) → SlT l w (r.s j) (r.t j)
theorem Mt.get {w : World} {ks : List CK} {vs : List Value} (h : Mt w ks vs) : ∀ {j : Nat} {k : CK}, ks[j]? = some k → ∃ v, vs[j]? = some v ∧ cellW w k v := by
  induction h with
  | nil => intro j k h; simp at h
  | cons h _ ih =>
    intro j k hj
    cases j with
    | zero => simp at hj; subst hj; exact ⟨_, rfl, h⟩
    | succ j => simpa using ih (by simpa using hj)
theorem Mt.row {w : World} {ks : List CK} {vs : List Value} (h : Mt w ks vs) : vs = enW (rowW w ks vs) ks 0 ∧ okW w ks (rowW w ks vs) := by
  have key : ∀ (n : Nat) (pre post : List CK) (a b : List Value), ks = pre ++ post → vs = a ++ b → a.length = pre.length → b.length = post.length → post.length = n → b = enW (rowW w ks vs) post pre.length := by
    intro n
    induction n with
    | zero =>
      intro pre post a b h1 h2 h3 h4 h5
      cases post with
      | nil => cases b with
        | nil => rfl
        | cons x b => simp at h4
      | cons x l => simp at h5
    | succ n ih =>
      intro pre post a b h1 h2 h3 h4 h5
      cases post with
      | nil => simp at h5
      | cons k post =>
        cases b with
        | nil => simp at h4
        | cons v b =>
          have hk : ks[pre.length]? = some k := by rw [h1]; simp
          have hv : vs[pre.length]? = some v := by rw [h2, ← h3]; simp
          obtain ⟨v', hv', hc⟩ := h.get hk
          rw [hv] at hv'
          obtain rfl := Option.some.inj hv'
          have ih' := ih (pre ++ [k]) post (a ++ [v]) b (by simp [h1]) (by simp [h2]) (by simp [h3]) (by simpa using h4) (by simpa using h5)
          rw [List.length_append, List.length_singleton] at ih'
          have hd : vs.getD pre.length (.bool false) = v := by rw [List.getD_eq_getElem?_getD, hv]; rfl
          cases k with
          | int k =>
            obtain ⟨z, rfl, _⟩ := hc
            rw [enW, ← ih']
            congr 1
            simp [rowW, hv]
          | bool =>
            obtain ⟨z, rfl⟩ := hc
            rw [enW, ← ih']
            congr 1
            simp [rowW, hv]
          | tab l =>
            rw [enW, ← ih']
            congr 1
            exact hd.symm
  refine ⟨key ks.length [] ks [] vs rfl rfl rfl h.length rfl, fun j k hk => ?_, fun j l hl => ?_⟩
  · obtain ⟨v, hv, z, rfl, hz⟩ := h.get hk
    simpa [rowW, hv] using hz
  · obtain ⟨v, hv, xs, hx⟩ := h.get hl
    have hd : vs.getD j (.bool false) = v := by rw [List.getD_eq_getElem?_getD, hv]; rfl
    have hex : ∃ xs, SlT l w (vs.getD j (.bool false)) xs := ⟨xs, by rw [hd]; exact hx⟩
    have e : (rowW w ks vs).t j = Classical.choose hex := by
      simp only [rowW, hl]
      rw [dif_pos hex]
    rw [e]
    exact Classical.choose_spec hex
/-- Cells of a row, as a row. -/
theorem Mt.flat {w : World} {cks : List CK} {vs : List Value} (h : Mt w cks vs) : ∀ {ks : List (Option IntKind)}, flatCK cks = some ks → ∃ r : RowV, vs = enV r ks 0 ∧ okV ks r := by
  have key : ∀ {cks : List CK} {vs : List Value}, Mt w cks vs → ∀ {ks : List (Option IntKind)}, flatCK cks = some ks → ∀ (r : RowV) (j : Nat), ∃ r' : RowV, vs = enV r' ks j ∧ (∀ i k, ks[i]? = some (some k) → (Lit.int k (r'.c (j + i))).wf = true) ∧ ∀ i, i < j → r'.c i = r.c i ∧ r'.g i = r.g i := by
    intro cks vs h
    induction h with
    | nil =>
      intro ks hk r j
      simp only [flatCK] at hk
      cases hk
      exact ⟨r, rfl, fun i k h => by simp at h, fun i _ => ⟨rfl, rfl⟩⟩
    | @cons k v cks vs hc _ ih =>
      intro ks hk r j
      cases k with
      | int k =>
        simp only [flatCK] at hk
        split at hk
        · rename_i m hm
          cases hk
          obtain ⟨z, rfl, hz⟩ := hc
          obtain ⟨r', h1, h2, h3⟩ := ih hm ⟨fun i => if i = j then z else r.c i, r.g⟩ (j + 1)
          have hj := h3 j (by omega)
          simp only [if_true] at hj
          refine ⟨r', by rw [enV, hj.1, ← h1], fun i k' hk' => ?_, fun i hi => ?_⟩
          · cases i with
            | zero => simp at hk'; subst hk'; rw [Nat.add_zero, hj.1]; exact hz
            | succ i => have := h2 i k' (by simpa using hk'); rwa [show j + 1 + i = j + (i + 1) by omega] at this
          · have := h3 i (by omega)
            simp only [if_neg (show i ≠ j by omega)] at this
            exact this
        · cases hk
      | bool =>
        simp only [flatCK] at hk
        split at hk
        · rename_i m hm
          cases hk
          obtain ⟨z, rfl⟩ := hc
          obtain ⟨r', h1, h2, h3⟩ := ih hm ⟨r.c, fun i => if i = j then z else r.g i⟩ (j + 1)
          have hj := h3 j (by omega)
          simp only [if_true] at hj
          refine ⟨r', by rw [enV, hj.2, ← h1], fun i k' hk' => ?_, fun i hi => ?_⟩
          · cases i with
            | zero => simp at hk'
            | succ i => have := h2 i k' (by simpa using hk'); rwa [show j + 1 + i = j + (i + 1) by omega] at this
          · have := h3 i (by omega)
            simp only [if_neg (show i ≠ j by omega)] at this
            exact this
        · cases hk
      | tab l => simp [flatCK] at hk
  intro ks hk
  obtain ⟨r', h1, h2, _⟩ := key h hk RowV.zero 0
  exact ⟨r', h1, fun j k hj => by have := h2 j k hj; rwa [Nat.zero_add] at this⟩
section
variable {H : Type} {enc : TypeId × Value → H} {P : Program} {w : World} {base : Nat} {spare : Nat → Bool} {held : Bool}
theorem seg_add {α : Type} (cs : List α) (o a b : Nat) : (cs.drop o).take (a + b) = (cs.drop o).take a ++ (cs.drop (o + a)).take b := by
  rw [List.take_add, List.drop_drop]
theorem ckFs_ok {f : TypeId → Option (List CK)} {cs : List Value} (hf : ∀ t ks, f t = some ks → ∀ n vs y, DataW.trod enc P w base spare held n t vs = some y → Mt w ks vs) :
    ∀ (l : List Field) (off : Nat) (ks : List CK), ckFs P f off l = some ks → (∀ (i : Nat) (fd : Field), l[i]? = some fd → ∃ n y, DataW.trod enc P w base spare held n fd.type ((cs.drop fd.offset).take (P.cellsOf fd.type)) = some y) → Mt w ks ((cs.drop off).take ks.length)
  | [], off, ks, h, _ => by
    simp only [ckFs] at h
    cases h
    simpa using Mt.nil
  | fd :: l, off, ks, h, ht => by
    simp only [ckFs] at h
    split at h
    · rename_i k1 hk1
      cases hc : (Nat.beq fd.offset off && Nat.beq (P.cellsOf fd.type) k1.length) with
      | false => rw [hc, cond_false] at h; cases h
      | true =>
        rw [hc, cond_true] at h
        simp only [Bool.and_eq_true] at hc
        have e1 := Nat.eq_of_beq_eq_true hc.1
        have e2 := Nat.eq_of_beq_eq_true hc.2
        split at h
        · rename_i m hm
          cases h
          obtain ⟨n, y, hy⟩ := ht 0 fd rfl
          rw [e1, e2] at hy
          have h1 := hf _ _ hk1 _ _ _ hy
          have h2 := ckFs_ok hf l (off + k1.length) m hm fun i fd' hi => ht (i + 1) fd' (by simpa using hi)
          rw [List.length_append, seg_add]
          exact h1.append h2
        · cases h
    · cases h
theorem repL_ok {cs : List Value} {ks : List CK} {z : Nat} (hz : ks.length = z) : ∀ (n : Nat), (∀ i, i < n → Mt w ks ((cs.drop (i * z)).take z)) → Mt w (repL n ks) (cs.take (n * z))
  | 0, _ => by simpa [repL] using Mt.nil
  | n + 1, h => by
    have ih := repL_ok hz n fun i hi => h i (by omega)
    rw [repL, Nat.succ_mul, List.take_add]
    exact ih.append (h n (by omega))
theorem ckOf_ok : ∀ (d : Nat) (t : TypeId) (ks : List CK), ckOf P d t = some ks → ∀ n cs y, DataW.trod enc P w base spare held n t cs = some y → Mt w ks cs
  | 0, _, _, h => by simp [ckOf] at h
  | d + 1, t, ks, h => by
    intro n cs y hy
    unfold ckOf at h
    split at h
    · rename_i k hk
      cases h
      obtain ⟨z, rfl, _, hw⟩ := DataW.trod_int hk hy
      exact .cons ⟨z, rfl, hw⟩ .nil
    · rename_i hk
      cases h
      obtain ⟨b, rfl, _⟩ := DataW.trod_bool hk hy
      exact .cons ⟨b, rfl⟩ .nil
    · rename_i fs hk
      split at h
      · rename_i l hl
        cases hc : Nat.beq (P.cellsOf t) l.length with
        | false => rw [hc, cond_false] at h; cases h
        | true =>
          rw [hc, cond_true] at h
          cases h
          have hlen := Nat.eq_of_beq_eq_true hc
          obtain ⟨xs, m, _, _, hcl, hxl, hg⟩ := DataW.trod_struct hk hy
          have := ckFs_ok (ckOf_ok d) fs.toList 0 _ hl (cs := cs) fun i fd hi => by
            have hi' : fs[i]? = some fd := by simpa using hi
            have hlt : i < xs.length := by rw [hxl]; exact (Array.getElem?_eq_some_iff.1 hi').1
            exact ⟨m, xs[i], by rw [hg i fd hi']; exact List.getElem?_eq_getElem hlt⟩
          rwa [List.drop_zero, List.take_of_length_le (by omega)] at this
      · cases h
    · rename_i m e hk
      split at h
      · rename_i l hl
        cases hc : (Nat.beq (P.cellsOf e) l.length && Nat.beq (P.cellsOf t) (m * l.length)) with
        | false => rw [hc, cond_false] at h; cases h
        | true =>
          rw [hc, cond_true] at h
          cases h
          simp only [Bool.and_eq_true] at hc
          have e1 := Nat.eq_of_beq_eq_true hc.1
          have e2 := Nat.eq_of_beq_eq_true hc.2
          obtain ⟨xs, q, _, _, hcl, hxl, hg⟩ := DataW.trod_array hk hy
          have := repL_ok (w := w) (cs := cs) (ks := l) rfl m fun i hi => by
            have h1 := hg i hi
            rw [e1, List.getElem?_eq_getElem (by omega)] at h1
            exact ckOf_ok d _ _ hl _ _ _ h1
          rwa [List.take_of_length_le (by omega)] at this
      · cases h
    · rename_i e hk
      split at h
      · rename_i ck hck
        split at h
        · rename_i l hl
          cases hc : (Nat.beq (P.cellsOf e) l.length && Nat.blt 0 l.length) with
          | false => rw [hc, cond_false] at h; cases h
          | true =>
            rw [hc, cond_true] at h
            cases h
            simp only [Bool.and_eq_true] at hc
            obtain ⟨v, xs, rfl, h1, h2⟩ := sl_open (en := fun r => enV r l 0) (ok := okV l) (z := l.length) (Nat.lt_of_succ_le (Nat.le_of_ble_eq_true hc.2)) (fun x => enV_length _ _ _) hk (Nat.eq_of_beq_eq_true hc.1)
              (fun n cs y _ hy => (ckOf_ok d _ _ hck _ _ _ hy).flat hl) hy
            exact .cons ⟨xs, h1, h2⟩ .nil
        · cases h
      · cases h
    · cases h
/-- An argument, opened. -/
theorem open_agg {t : TypeId} {r : Reach} {b0 : Nat} {v : Value} {d : DataW H} {p : List MemPlace} {dp : Nat} {ks : List CK} (hk : ckOf P dp t = some ks) (hs : (∃ fs, P.underlying t = some (.struct fs)) ∨ ∃ n e, P.underlying t = some (.array n e))
    (hval : Value.okWide P w r b0 t v) (h : DataW.Trod enc P w base spare held t v d p) : ∃ x : RowW, v = .agg (enW x ks 0).toArray ∧ okW w ks x := by
  obtain ⟨cs, rfl⟩ : ∃ cs, v = .agg cs := by
    rcases hs with ⟨fs, hs⟩ | ⟨n, e, hs⟩
    · obtain ⟨cs, h1, _⟩ := okWide_struct hs hval; exact ⟨cs, h1⟩
    · obtain ⟨cs, h1, _⟩ := okWide_arr hs hval; exact ⟨cs, h1⟩
  obtain ⟨fuel, hf⟩ := h
  have hm := ckOf_ok dp t ks hk _ _ _ hf
  obtain ⟨h1, h2⟩ := hm.row
  refine ⟨_, ?_, h2⟩
  rw [← h1]
  simp [Value.cells]
end
/-! ## Slices as tables -/
def tabV (xs : List RowV) : Tab := ⟨xs.length, fun j i => (xs.getD i RowV.zero).c j, fun j i => (xs.getD i RowV.zero).g j⟩
theorem rowCs_sl {c c' : Nat → Nat → Int} {g g' : Nat → Nat → Bool} {i i' : Nat} (hc : ∀ j, c j i = c' j i') (hg : ∀ j, g j i = g' j i') : ∀ (ks : List (Option IntKind)) (j : Nat), rowCs c g i ks j = rowCs c' g' i' ks j
  | [], _ => rfl
  | some k :: ks, j => by rw [rowCs, rowCs, hc j, rowCs_sl hc hg ks]
  | none :: ks, j => by rw [rowCs, rowCs, hg j, rowCs_sl hc hg ks]
theorem enV_rel {ρ : Env} {σ : Mp} (r : RowV) : ∀ (ks : List (Option IntKind)) (j : Nat), VRl ρ σ (rowCs (fun j _ => r.c j) (fun j _ => r.g j) 0 ks j) (enV r ks j)
  | [], _ => .nil
  | some k :: ks, j => .cons (.int k (.x (r.c j))) (enV_rel r ks (j + 1))
  | none :: ks, j => .cons (.bool (.x (r.g j))) (enV_rel r ks (j + 1))
theorem ArgAt.rows_eq {ρ : Env} {w : World} {n z : Nat} {f g : Nat → List CV} {hf : ∀ j, (f j).length = z ∧ (f j).all CV.flat = true} {hg : ∀ j, (g j).length = z ∧ (g j).all CV.flat = true} {lo : Option Loc} (e : f = g) (h : ArgAt ρ w ⟨.arg n z f hf, z, true, none⟩ lo) : ArgAt ρ w ⟨.arg n z g hg, z, true, none⟩ lo := by
  subst e; exact h
structure SlV where
  v : Value
  ks : List (Option IntKind)
  xs : List RowV
noncomputable def sigV (w : World) (S : List SlV) : Mp := fun b => match S[b]? with | some s => locOf w s.v s.ks.length | none => none
def heapV : Nat → List SlV → List (Nat × Blk)
  | _, [] => []
  | i, s :: l => (i, tabB s.ks (tabV s.xs)) :: heapV (i + 1) l
theorem sigV_none {w : World} {S : List SlV} {b : Nat} (h : S.length ≤ b) : sigV w S b = none := by
  unfold sigV; rw [List.getElem?_eq_none h]
theorem SlT.both {ρ : Env} {w : World} {S : List SlV} {b : Nat} {s : SlV} (hb : S[b]? = some s) (h : SlT s.ks w s.v s.xs) : VR ρ (sigV w S) (.sla b s.ks.length 0 s.xs.length) s.v ∧ ArgAt ρ w (tabB s.ks (tabV s.xs)) (sigV w S b) := by
  obtain ⟨h1, h2⟩ := SlR.rel (ρ := ρ) (σ := sigV w S) (b := b) (ec := fun r => rowCs (fun j _ => r.c j) (fun j _ => r.g j) 0 s.ks 0) (d := RowV.zero) h.1 (fun x => enV_length _ _ _) (fun σ x => enV_rel x s.ks 0) (fun j => rowCs_ok _ _ _ _ _) (by unfold sigV; rw [hb])
  have e : (fun j => rowCs (fun j' _ => (s.xs.getD j RowV.zero).c j') (fun j' _ => (s.xs.getD j RowV.zero).g j') 0 s.ks 0) = fun i => rowCs (tabV s.xs).c (tabV s.xs).g i s.ks 0 := funext fun i => rowCs_sl (c := fun j' _ => (s.xs.getD i RowV.zero).c j') (g := fun j' _ => (s.xs.getD i RowV.zero).g j') (fun _ => rfl) (fun _ => rfl) _ _
  have h3 := ArgAt.rows_eq (hg := fun i => rowCs_ok (tabV s.xs).c (tabV s.xs).g i s.ks 0) e h2
  exact ⟨h1, h3⟩
theorem SlT.rel {ρ : Env} {w : World} {S : List SlV} (b : Nat) {s : SlV} (hb : S[b]? = some s) (h : SlT s.ks w s.v s.xs) : VR ρ (sigV w S) (.sla b s.ks.length 0 s.xs.length) s.v := (h.both hb).1
theorem SlT.len {ks : List (Option IntKind)} {w : World} {v : Value} {xs : List RowV} (h : SlT ks w v xs) : xs.length ≤ 9223372036854775807 := by
  obtain ⟨⟨a, cap, _, _, hl, _⟩, _⟩ := h
  exact hl
theorem SlT.wf {ks : List (Option IntKind)} {w : World} {v : Value} {xs : List RowV} (h : SlT ks w v xs) (j : Nat) (k : IntKind) (hk : ks[j]? = some (some k)) (h0 : (Lit.int k 0).wf = true) (i : Nat) : (Lit.int k ((tabV xs).c j i)).wf = true := by
  show (Lit.int k ((xs.getD i RowV.zero).c j)).wf = true
  by_cases hi : i < xs.length
  · rw [List.getD_eq_getElem?_getD, List.getElem?_eq_getElem hi]
    exact h.2 _ (List.getElem_mem hi) j k hk
  · rw [List.getD_eq_getElem?_getD, List.getElem?_eq_none (by omega)]
    exact h0
theorem heapV_get {ρ : Env} {w : World} : ∀ (l : List SlV) (i : Nat) (S : List SlV), (∀ j s, l[j]? = some s → S[i + j]? = some s) → (∀ s ∈ l, SlT s.ks w s.v s.xs) → ∀ b k, (mkH (heapV i l)).get b = some k → ArgAt ρ w k (sigV w S b)
  | [], i, S, _, _, b, k, h => by
    simp only [heapV, mkH] at h
    cases h
  | s :: l, i, S, hS, hT, b, k, h => by
    have h : ((mkH (heapV (i + 1) l)).set i (tabB s.ks (tabV s.xs))).get b = some k := h
    rw [Tr.get_set] at h
    split at h
    · rename_i hb
      cases h
      have := hS 0 s rfl
      rw [Nat.add_zero] at this
      rw [hb]
      exact ((hT s (by simp)).both this).2
    · exact heapV_get l (i + 1) S (fun j s' hj => by rw [show i + 1 + j = i + (j + 1) by omega]; exact hS (j + 1) s' (by simpa using hj)) (fun s' hs => hT s' (by simp [hs])) b k h
theorem argsV {ρ : Env} {w : World} (S : List SlV) (base : Nat) (hS : ∀ s ∈ S, SlT s.ks w s.v s.xs) (hL : Laid w) : HR ρ (sigV w S) (curOf (mkH (heapV 0 S)) base) w :=
  HR.ofArgs hL fun i k _ hk => heapV_get S 0 S (fun j s h => by rw [Nat.zero_add]; exact h) hS i k hk
end Go.Proofs.Ythagjhadjpangaa.Cx

/- DieMore holds, for all inputs: by its automaton. Made by tools/cxlaws.py. -/
namespace Go.Proofs.Ythagjhadjpangaa
set_option linter.unusedVariables false
set_option linter.unusedSimpArgs false
open Go.ChangeShapes Go.WideShapes Go.ChangeAt Go.RowKit
open Cx (Env IE BE DT KnownB)
set_option maxRecDepth 100000 in
theorem dmore_open0 {H : Type} {enc : TypeId × Value → H} {w : World} {base : Nat} {spare : Nat → Bool} {held : Bool} {r : Reach} {b0 : Nat} {vv : Value} {d : DataW H} {p : List MemPlace} (hval : Value.okWide Try.prog w r b0 79 vv) (h : DataW.Trod enc Try.prog w base spare held 79 vv d p) :
    ∃ y0 : Cx.RowW, vv = .agg #[.bool (y0.g 0), .int .u8 (y0.c 1), .int .u8 (y0.c 2), y0.s 3, y0.s 4, y0.s 5] ∧ Cx.okW w [.bool, .int .u8, .int .u8, .tab [some .u8, some .u8], .tab [some .u8, some .u8, some .u8, some .u8], .tab [some .u8]] y0 :=
  Cx.open_agg (ks := [.bool, .int .u8, .int .u8, .tab [some .u8, some .u8], .tab [some .u8, some .u8, some .u8, some .u8], .tab [some .u8]]) (dp := 12) (by kernel_rfl) (.inl ⟨_, Try.underlying79⟩) hval h
theorem dmore_walk (y0 : Cx.RowW) (y1 : Int) (w : World) (g0 : Cx.okW w [.bool, .int .u8, .int .u8, .tab [some .u8, some .u8], .tab [some .u8, some .u8, some .u8, some .u8], .tab [some .u8]] y0) (g1 : (Lit.int .u8 y1).wf = true) :
    Calls Try.prog 10 #[.agg #[.bool (y0.g 0), .int .u8 (y0.c 1), .int .u8 (y0.c 2), y0.s 3, y0.s 4, y0.s 5], .int .u8 y1] w fun e w' => e = .returned (.bool true) ∧ Below w.heap.size w w' := by
  have hLw : Cx.Laid w := fun _ h => by cases h
  obtain ⟨n, v, hv, hp⟩ := Cx.dlq_run (y0.g 0) (y0.c 1) (y0.c 2) (Cx.tabV (y0.t 3)).n ((Cx.tabV (y0.t 3)).c 0) ((Cx.tabV (y0.t 3)).c 1) (Cx.tabV (y0.t 4)).n ((Cx.tabV (y0.t 4)).c 0) ((Cx.tabV (y0.t 4)).c 1) ((Cx.tabV (y0.t 4)).c 2) ((Cx.tabV (y0.t 4)).c 3) (Cx.tabV (y0.t 5)).n ((Cx.tabV (y0.t 5)).c 0) y1 (rng_u8 (g0.1 1 .u8 rfl)) (rng_u8 (g0.1 2 .u8 rfl)) (Cx.SlT.len (g0.2 3 _ rfl)) (fun i => rng_u8 (Cx.SlT.wf (g0.2 3 _ rfl) 0 .u8 rfl rfl i)) (fun i => rng_u8 (Cx.SlT.wf (g0.2 3 _ rfl) 1 .u8 rfl rfl i)) (Cx.SlT.len (g0.2 4 _ rfl)) (fun i => rng_u8 (Cx.SlT.wf (g0.2 4 _ rfl) 0 .u8 rfl rfl i)) (fun i => rng_u8 (Cx.SlT.wf (g0.2 4 _ rfl) 1 .u8 rfl rfl i)) (fun i => rng_u8 (Cx.SlT.wf (g0.2 4 _ rfl) 2 .u8 rfl rfl i)) (fun i => rng_u8 (Cx.SlT.wf (g0.2 4 _ rfl) 3 .u8 rfl rfl i)) (Cx.SlT.len (g0.2 5 _ rfl)) (fun i => rng_u8 (Cx.SlT.wf (g0.2 5 _ rfl) 0 .u8 rfl rfl i)) (rng_u8 g1)
  have hS : ∀ s ∈ ([⟨(y0.s 3), [some .u8, some .u8], (y0.t 3)⟩, ⟨(y0.s 4), [some .u8, some .u8, some .u8, some .u8], (y0.t 4)⟩, ⟨(y0.s 5), [some .u8], (y0.t 5)⟩] : List Cx.SlV), Cx.SlT s.ks w s.v s.xs := fun s hs => by
    simp only [List.mem_cons, List.not_mem_nil, or_false] at hs
    rcases hs with rfl | rfl | rfl
    · exact (g0.2 3 _ rfl)
    · exact (g0.2 4 _ rfl)
    · exact (g0.2 5 _ rfl)
  exact Cx.Ctr.law (ρ := ⟨fun _ => 0, fun _ => false⟩) (σ := Cx.sigV w ([⟨(y0.s 3), [some .u8, some .u8], (y0.t 3)⟩, ⟨(y0.s 4), [some .u8, some .u8, some .u8, some .u8], (y0.t 4)⟩, ⟨(y0.s 5), [some .u8], (y0.t 5)⟩] : List Cx.SlV)) (e := .x v) (Cx.dlqctr (y0.g 0) (y0.c 1) (y0.c 2) (Cx.tabV (y0.t 3)).n ((Cx.tabV (y0.t 3)).c 0) ((Cx.tabV (y0.t 3)).c 1) (Cx.tabV (y0.t 4)).n ((Cx.tabV (y0.t 4)).c 0) ((Cx.tabV (y0.t 4)).c 1) ((Cx.tabV (y0.t 4)).c 2) ((Cx.tabV (y0.t 4)).c 3) (Cx.tabV (y0.t 5)).n ((Cx.tabV (y0.t 5)).c 0) y1 Cx.dlqmem hv) hp (.cons (.agg (.cons (.bool (.x (y0.g 0))) (.cons (.int .u8 (.x (y0.c 1))) (.cons (.int .u8 (.x (y0.c 2))) (.cons (Cx.SlT.rel (S := ([⟨(y0.s 3), [some .u8, some .u8], (y0.t 3)⟩, ⟨(y0.s 4), [some .u8, some .u8, some .u8, some .u8], (y0.t 4)⟩, ⟨(y0.s 5), [some .u8], (y0.t 5)⟩] : List Cx.SlV)) 0 rfl (g0.2 3 _ rfl)) (.cons (Cx.SlT.rel (S := ([⟨(y0.s 3), [some .u8, some .u8], (y0.t 3)⟩, ⟨(y0.s 4), [some .u8, some .u8, some .u8, some .u8], (y0.t 4)⟩, ⟨(y0.s 5), [some .u8], (y0.t 5)⟩] : List Cx.SlV)) 1 rfl (g0.2 4 _ rfl)) (.cons (Cx.SlT.rel (S := ([⟨(y0.s 3), [some .u8, some .u8], (y0.t 3)⟩, ⟨(y0.s 4), [some .u8, some .u8, some .u8, some .u8], (y0.t 4)⟩, ⟨(y0.s 5), [some .u8], (y0.t 5)⟩] : List Cx.SlV)) 2 rfl (g0.2 5 _ rfl)) .nil))))))) (.cons (.int .u8 (.x y1)) .nil)) (Cx.argsV ([⟨(y0.s 3), [some .u8, some .u8], (y0.t 3)⟩, ⟨(y0.s 4), [some .u8, some .u8, some .u8, some .u8], (y0.t 4)⟩, ⟨(y0.s 5), [some .u8], (y0.t 5)⟩] : List Cx.SlV) _ hS hLw) (fun b hb => Cx.sigV_none hb)
theorem dmore_own : ownKnob Try.prog.godebug = none := by kernel_rfl
theorem dmore_laidOut : laidOutB Try.prog = true := by kernel_rfl
set_option maxRecDepth 100000 in
theorem dmore_lifted (os : Os) (started : os.Started) (H : Type) (enc : TypeId × Value → H) :
    ReturnsInHanded {} Try.checked os 10 .any (Rows.dieMoreSpec.pre6 enc Try.prog Try.f10 Rows.dieMoreRow.domain false) (Rows.dieMoreSpec.post enc Try.prog Try.f10 false true false false) := by
  refine returnsInHanded_of_change (C := Try.checked) dmore_own started (by kernel_rfl) Try.func10
    (ChangeSpec.witness6 (enc := enc) (C := Try.checked) false ⟨#[], #[.agg #[.bool false, .int .u8 0, .int .u8 0, .slice none 0 0, .slice none 0 0, .slice none 0 0], .int .u8 0], []⟩ 8 (by kernel_rfl) (by kernel_rfl) (by kernel_rfl) (by kernel_rfl)) ?_
  intro W base args ds gs before hval0 hW hcnd _
  have hval : ∀ (j : Nat) t v, Try.f10.params[j]? = some t → args[j]? = some v → Value.okWide Try.prog W .any base t v := hval0
  have hW' := hW
  obtain ⟨p, q, hA0, hV, rfl, hfz, hnd⟩ := hW
  have hA : DataW.TrodAll enc Try.prog W 0 (fun _ => true) true Try.f10.params.toList args.toList ds p := hA0
  rw [Try.params10] at hA hval
  obtain ⟨v0, vs0, d0, ds0, p0, q0, hargs, rfl, rfl, h0, r0⟩ := trodAll_cons hA
  obtain ⟨v1, vs1, d1, ds1, p1, q1, rfl, rfl, rfl, h1, r1⟩ := trodAll_cons r0
  obtain ⟨rfl, rfl, rfl⟩ := trodAll_nil r1
  obtain rfl : args = #[v0, v1] := by cases args; simp_all
  obtain ⟨rfl, rfl⟩ := trodVars_none hV
  have k0 := h0
  have lt0 : ∀ x ∈ p0, x.block < W.heap.size := by obtain ⟨m, hm⟩ := k0; exact DataW.trod_lt m _ _ _ hm
  have k1 := h1
  have lt1 : ∀ x ∈ p1, x.block < W.heap.size := by obtain ⟨m, hm⟩ := k1; exact DataW.trod_lt m _ _ _ hm
  obtain ⟨y0, rfl, g0⟩ := dmore_open0 (hval 0 79 v0 rfl rfl) h0
  obtain ⟨y1, rfl, rfl, rfl, g1⟩ := open_int Try.underlying5 (hval 1 5 v1 rfl rfl) h1
  clear hA0 hval0
  refine (dmore_walk y0 y1 W g0 g1).mono fun e W' ⟨he, bel⟩ => ?_
  subst he
  exact ⟨_, rfl, _, _, _, [], _, [], hW', trodAll_mk1 (shut_bool Try.underlying4 _), (trodAll_cons_mk (Below.trod dmore_laidOut (by kernel_rfl) (of_decide_eq_true (by kernel_rfl)) k0 bel lt0) (trodAll_cons_mk (Below.trod dmore_laidOut (by kernel_rfl) (of_decide_eq_true (by kernel_rfl)) k1 bel lt1) trodAll_mk0)), rfl, bel.frame _, fun h => by cases h⟩
theorem dmore_over : Rows.dieMoreRow.holds Try.pinned (OpenSpec.ofChange Rows.dieMoreSpec) :=
  OpenClaim.holds_of_wide 10 Try.f10 rfl rfl rfl rfl rfl rfl rfl ⟨rfl, rfl, rfl, rfl, rfl⟩ rfl rfl rfl rfl rfl (by kernel_rfl) Try.func10 (by kernel_rfl)
    (of_decide_eq_true (by kernel_rfl)) (by unfold Func.isWrapper; rw [if_neg (of_decide_eq_false (by kernel_rfl))]; exact ⟨rfl, rfl⟩)
    (fun os started H enc _ => dmore_lifted os started H enc)
theorem dmore_proved : Rows.DieMoreSaid := dmore_over
#print axioms dmore_proved
end Go.Proofs.Ythagjhadjpangaa
