/- acmeref09.Kind: whether a kind is valid. Made by tools/gen_bcon.py. -/
import Derived.Test.YtgnmdknbnkljbaaPBLLoo5

namespace Go.Proofs.Ytgnmdknbnkljbaa.Cx
set_option linter.unusedVariables false
set_option linter.unusedSimpArgs false
set_option maxRecDepth 100000
set_option maxHeartbeats 4000000
open Go Go.RowKit

theorem abk_val (a0 a1 a2 a3 a4 a5 a6 a7 a8 a9 a10 a11 a12 : Int) : AF.fin (abkA a0 a1 a2 a3 a4 a5 a6 a7 a8 a9 a10 a11 a12) = true ∧ ((KindP a0 a1 a2 a3 a4 a5 a6 a7 a8 a9 a10 a11 a12 → AF.val (abkA a0 a1 a2 a3 a4 a5 a6 a7 a8 a9 a10 a11 a12) = true) ∧ (¬ KindP a0 a1 a2 a3 a4 a5 a6 a7 a8 a9 a10 a11 a12 → AF.val (abkA a0 a1 a2 a3 a4 a5 a6 a7 a8 a9 a10 a11 a12) = false)) :=
  AF.val_sat (Inv := fun _ => False) (E := fun v => (KindP a0 a1 a2 a3 a4 a5 a6 a7 a8 a9 a10 a11 a12 → v = true) ∧ (¬ KindP a0 a1 a2 a3 a4 a5 a6 a7 a8 a9 a10 a11 a12 → v = false)) (fun _ => 0) (fun _ => rfl) (fun a => nomatch a) (by
    show DD.sat _ _ (abkD0 a0 a1 a2 a3 a4 a5 a6 a7 a8 a9 a10 a11 a12)
    unfold abkD0 KindP
    simp only [DD.sat, cmLss, cmLeq, cmGtr, cmGeq, cmEql, cmNeq, cmLssF, cmLeqF, cmGtrF, cmGeqF, cmEqlF, cmNeqF, reduceCtorEq, imp_false, imp_true_iff, and_true, true_and, Classical.not_not, forall_const]
    repeat' (first | (intro _) | (apply And.intro))
    all_goals omega)
end Go.Proofs.Ytgnmdknbnkljbaa.Cx

/- acme/acmelaw09.known returns true, in every world: by the evaluator. Made by tools/cxlaw.py. -/
namespace Go.Proofs.Ytgnmdknbnkljbaa.Cx
set_option maxRecDepth 100000
open Go Go.Proofs Go.RowKit
noncomputable def CxKn09C : Ctx := ctxOf Try.prog memo0
theorem CxKn09_run : isTrue (eval CxKn09C 1000 0 (.call 18 []) .empty) = true := by kernel_rfl
theorem CxKn09_known : KnownB Try.prog 18 := known_of try_ok memo0_ok (by kernel_rfl) CxKn09_run
end Go.Proofs.Ytgnmdknbnkljbaa.Cx

/- acme/acmelaw09.BoltLooses as an automaton. Made by tools/cxauto.py. -/
namespace Go.Proofs.Ytgnmdknbnkljbaa.Cx
set_option linter.unusedVariables false
set_option linter.unusedSimpArgs false
set_option maxRecDepth 100000
open Go Go.Proofs Go.RowKit

noncomputable abbrev aloCode : Code := funcCode Try.f6


inductive aloN where
  | n0 (p0 : Bool) (p1 : Bool) (p2 : Int) (p3 : Int) (p4 : Nat) (p5 : Bool) (p6 : Bool) (p7 : Int) (p8 : Int) (p9 : Int) (p10 : Nat) (p11 : Nat → Int) (p12 : Nat → Int) (p13 : Nat → Int) (p14 : Nat → Int) (p15 : Nat → Int) (p16 : Nat → Int) (p17 : Nat → Int) (p18 : Nat → Int) (p19 : Int) (p20 : Int)

abbrev aloR := Bool

noncomputable def aloD0 (a0 : Int) (a1 : Int) (a2 : Int) (a3 : Int) (a4 : Int) (a5 : Int) (a6 : Int) (a7 : Int) (a8 : Int) (a9 : Int) (a10 : Int) (a11 : Int) (a12 : Int) (a13 : Int) (a14 : Int) : DD (Lf aloN aloR) :=
 .must (AF.fin (abhA a0 a1 a2 a3 a4 a5 a6 a7 a8 a9 a10 a11 a12))
   (.must (AF.fin (abnA a0 a1 a2 a3 a4 a5 a6 a7 a8 a9 a10 a11 a12 a13 a14))
   (.must (AF.fin (abkA a0 a1 a2 a3 a4 a5 a6 a7 a8 a9 a10 a11 a12))
   (.ask (!AF.val (abkA a0 a1 a2 a3 a4 a5 a6 a7 a8 a9 a10 a11 a12))
   (.ask (Cm.run Cm.eql (Prod.snd (Prod.snd (AF.val (abhA a0 a1 a2 a3 a4 a5 a6 a7 a8 a9 a10 a11 a12)))) 2)
   (.ask (Cm.run Cm.eql (Prod.snd (Prod.snd (AF.val (abnA a0 a1 a2 a3 a4 a5 a6 a7 a8 a9 a10 a11 a12 a13 a14)))) (Prod.snd (Prod.snd (AF.val (abhA a0 a1 a2 a3 a4 a5 a6 a7 a8 a9 a10 a11 a12)))))
   (.ask (!Prod.fst (AF.val (abhA a0 a1 a2 a3 a4 a5 a6 a7 a8 a9 a10 a11 a12)))
   (.ask (!Prod.fst (Prod.snd (AF.val (abhA a0 a1 a2 a3 a4 a5 a6 a7 a8 a9 a10 a11 a12))))
   (.ask (Cm.run Cm.eql (Prod.fst (AF.val (abnA a0 a1 a2 a3 a4 a5 a6 a7 a8 a9 a10 a11 a12 a13 a14))) 0)
   (.ask (Cm.run Cm.eql (Prod.fst (Prod.snd (AF.val (abnA a0 a1 a2 a3 a4 a5 a6 a7 a8 a9 a10 a11 a12 a13 a14)))) 0)
   (.leaf (.done true []))
   (.leaf (.done false [])))
   (.leaf (.done false [])))
   (.leaf (.done false [])))
   (.leaf (.done false [])))
   (.leaf (.done false [])))
   (.leaf (.done false [])))
   (.must (AF.fin (abtA a0 a1 a2 a3 a4 a5 a6 a7 a8 a9 a10 a11 a12 0 a13 a14 0 0 0 0))
   (.leaf (.next (.n0 (Prod.fst (AF.val (abhA a0 a1 a2 a3 a4 a5 a6 a7 a8 a9 a10 a11 a12))) (Prod.fst (Prod.snd (AF.val (abhA a0 a1 a2 a3 a4 a5 a6 a7 a8 a9 a10 a11 a12)))) (Prod.snd (Prod.snd (AF.val (abhA a0 a1 a2 a3 a4 a5 a6 a7 a8 a9 a10 a11 a12)))) (Prod.snd (Prod.snd (AF.val (abnA a0 a1 a2 a3 a4 a5 a6 a7 a8 a9 a10 a11 a12 a13 a14)))) (abtw0 (AF.val (abtA a0 a1 a2 a3 a4 a5 a6 a7 a8 a9 a10 a11 a12 0 a13 a14 0 0 0 0))) true false 0 (Prod.fst (AF.val (abnA a0 a1 a2 a3 a4 a5 a6 a7 a8 a9 a10 a11 a12 a13 a14))) (Prod.fst (Prod.snd (AF.val (abnA a0 a1 a2 a3 a4 a5 a6 a7 a8 a9 a10 a11 a12 a13 a14)))) (abtw0 (AF.val (abtA a0 a1 a2 a3 a4 a5 a6 a7 a8 a9 a10 a11 a12 0 a13 a14 0 0 0 0))) (fun i => abtw1 (AF.val (abtA a0 a1 a2 a3 a4 a5 a6 a7 a8 a9 a10 a11 a12 0 a13 a14 0 0 0 0)) i) (fun i => abtw2 (AF.val (abtA a0 a1 a2 a3 a4 a5 a6 a7 a8 a9 a10 a11 a12 0 a13 a14 0 0 0 0)) i) (fun i => abtw3 (AF.val (abtA a0 a1 a2 a3 a4 a5 a6 a7 a8 a9 a10 a11 a12 0 a13 a14 0 0 0 0)) i) (fun i => abtw4 (AF.val (abtA a0 a1 a2 a3 a4 a5 a6 a7 a8 a9 a10 a11 a12 0 a13 a14 0 0 0 0)) i) (fun i => abtw5 (AF.val (abtA a0 a1 a2 a3 a4 a5 a6 a7 a8 a9 a10 a11 a12 0 a13 a14 0 0 0 0)) i) (fun i => abtw6 (AF.val (abtA a0 a1 a2 a3 a4 a5 a6 a7 a8 a9 a10 a11 a12 0 a13 a14 0 0 0 0)) i) (fun i => abtw7 (AF.val (abtA a0 a1 a2 a3 a4 a5 a6 a7 a8 a9 a10 a11 a12 0 a13 a14 0 0 0 0)) i) (fun i => abtw8 (AF.val (abtA a0 a1 a2 a3 a4 a5 a6 a7 a8 a9 a10 a11 a12 0 a13 a14 0 0 0 0)) i) 0 0) [0, 1, 2, 3, 4]))))))

noncomputable def aloD (a0 : Int) (a1 : Int) (a2 : Int) (a3 : Int) (a4 : Int) (a5 : Int) (a6 : Int) (a7 : Int) (a8 : Int) (a9 : Int) (a10 : Int) (a11 : Int) (a12 : Int) (a13 : Int) (a14 : Int) : aloN → DD (Lf aloN aloR)
 | .n0 p0 p1 p2 p3 p4 p5 p6 p7 p8 p9 p10 p11 p12 p13 p14 p15 p16 p17 p18 p19 p20 =>
 .ask (Cm.run Cm.lss p7 (↑p4 : Int))
   (.must (decide (0 ≤ p7))
   (.must (decide (p7 < (↑p4 : Int)))
   (.must (decide (0 + Int.toNat p7 < p10))
   (.must (AF.fin (abrA a0 a1 a2 a3 a4 a5 a6 a7 a8 a9 a10 a11 a12 (p11 (0 + Int.toNat p7)) (p12 (0 + Int.toNat p7))))
   (.ask (Cm.run Cm.gtr (AF.val (abrA a0 a1 a2 a3 a4 a5 a6 a7 a8 a9 a10 a11 a12 (p11 (0 + Int.toNat p7)) (p12 (0 + Int.toNat p7)))) (Ar.run Ar.mul IntKind.i64 2000 a0))
   (.ask (p5)
   (.ask (p6)
   (.ask (Cm.run Cm.geq a13 0)
   (.ask (Cm.run Cm.leq a13 a14)
   (.ask (Cm.run Cm.leq a14 100000000)
   (.must (decide (0 ≤ p7))
   (.must (decide (p7 < (↑p4 : Int)))
   (.must (decide (0 + Int.toNat p7 < p10))
   (.must (decide (0 ≤ p7))
   (.must (decide (p7 < (↑p4 : Int)))
   (.must (decide (0 + Int.toNat p7 < p10))
   (.must (AF.fin (abuA a0 a1 a2 a3 a4 a5 a6 a7 a8 a9 a10 a11 a12 (p16 (0 + Int.toNat p7)) (p11 (0 + Int.toNat p7)) (p12 (0 + Int.toNat p7))))
   (.ask (Cm.run Cm.eql p7 0)
   (.leaf (.next (.n0 p0 p1 p2 p3 p4 true true (Ar.run Ar.add IntKind.i64 p7 1) p8 p9 p10 (fun i => p11 i) (fun i => p12 i) (fun i => p13 i) (fun i => p14 i) (fun i => p15 i) (fun i => p16 i) (fun i => p17 i) (fun i => p18 i) (Ar.run Ar.mn IntKind.i64 (AF.val (abuA a0 a1 a2 a3 a4 a5 a6 a7 a8 a9 a10 a11 a12 (p16 (0 + Int.toNat p7)) (p11 (0 + Int.toNat p7)) (p12 (0 + Int.toNat p7)))) (AF.val (abuA a0 a1 a2 a3 a4 a5 a6 a7 a8 a9 a10 a11 a12 (p16 (0 + Int.toNat p7)) (p11 (0 + Int.toNat p7)) (p12 (0 + Int.toNat p7))))) (Ar.run Ar.mx IntKind.i64 (AF.val (abuA a0 a1 a2 a3 a4 a5 a6 a7 a8 a9 a10 a11 a12 (p16 (0 + Int.toNat p7)) (p11 (0 + Int.toNat p7)) (p12 (0 + Int.toNat p7)))) (AF.val (abuA a0 a1 a2 a3 a4 a5 a6 a7 a8 a9 a10 a11 a12 (p16 (0 + Int.toNat p7)) (p11 (0 + Int.toNat p7)) (p12 (0 + Int.toNat p7)))))) [0, 1, 2, 3, 4]))
   (.leaf (.next (.n0 p0 p1 p2 p3 p4 true true (Ar.run Ar.add IntKind.i64 p7 1) p8 p9 p10 (fun i => p11 i) (fun i => p12 i) (fun i => p13 i) (fun i => p14 i) (fun i => p15 i) (fun i => p16 i) (fun i => p17 i) (fun i => p18 i) (Ar.run Ar.mn IntKind.i64 p19 (AF.val (abuA a0 a1 a2 a3 a4 a5 a6 a7 a8 a9 a10 a11 a12 (p16 (0 + Int.toNat p7)) (p11 (0 + Int.toNat p7)) (p12 (0 + Int.toNat p7))))) (Ar.run Ar.mx IntKind.i64 p20 (AF.val (abuA a0 a1 a2 a3 a4 a5 a6 a7 a8 a9 a10 a11 a12 (p16 (0 + Int.toNat p7)) (p11 (0 + Int.toNat p7)) (p12 (0 + Int.toNat p7)))))) [0, 1, 2, 3, 4]))))))))))
   (.leaf (.next (.n0 p0 p1 p2 p3 p4 true true (Ar.run Ar.add IntKind.i64 p7 1) p8 p9 p10 (fun i => p11 i) (fun i => p12 i) (fun i => p13 i) (fun i => p14 i) (fun i => p15 i) (fun i => p16 i) (fun i => p17 i) (fun i => p18 i) p19 p20) [0, 1, 2, 3, 4])))
   (.leaf (.next (.n0 p0 p1 p2 p3 p4 true true (Ar.run Ar.add IntKind.i64 p7 1) p8 p9 p10 (fun i => p11 i) (fun i => p12 i) (fun i => p13 i) (fun i => p14 i) (fun i => p15 i) (fun i => p16 i) (fun i => p17 i) (fun i => p18 i) p19 p20) [0, 1, 2, 3, 4])))
   (.leaf (.next (.n0 p0 p1 p2 p3 p4 true true (Ar.run Ar.add IntKind.i64 p7 1) p8 p9 p10 (fun i => p11 i) (fun i => p12 i) (fun i => p13 i) (fun i => p14 i) (fun i => p15 i) (fun i => p16 i) (fun i => p17 i) (fun i => p18 i) p19 p20) [0, 1, 2, 3, 4])))
   (.ask (Cm.run Cm.geq a13 0)
   (.ask (Cm.run Cm.leq a13 a14)
   (.ask (Cm.run Cm.leq a14 100000000)
   (.must (decide (0 ≤ p7))
   (.must (decide (p7 < (↑p4 : Int)))
   (.must (decide (0 + Int.toNat p7 < p10))
   (.must (decide (0 ≤ p7))
   (.must (decide (p7 < (↑p4 : Int)))
   (.must (decide (0 + Int.toNat p7 < p10))
   (.must (AF.fin (abuA a0 a1 a2 a3 a4 a5 a6 a7 a8 a9 a10 a11 a12 (p16 (0 + Int.toNat p7)) (p11 (0 + Int.toNat p7)) (p12 (0 + Int.toNat p7))))
   (.ask (Cm.run Cm.eql p7 0)
   (.leaf (.next (.n0 p0 p1 p2 p3 p4 true true (Ar.run Ar.add IntKind.i64 p7 1) p8 p9 p10 (fun i => p11 i) (fun i => p12 i) (fun i => p13 i) (fun i => p14 i) (fun i => p15 i) (fun i => p16 i) (fun i => p17 i) (fun i => p18 i) (Ar.run Ar.mn IntKind.i64 (AF.val (abuA a0 a1 a2 a3 a4 a5 a6 a7 a8 a9 a10 a11 a12 (p16 (0 + Int.toNat p7)) (p11 (0 + Int.toNat p7)) (p12 (0 + Int.toNat p7)))) (AF.val (abuA a0 a1 a2 a3 a4 a5 a6 a7 a8 a9 a10 a11 a12 (p16 (0 + Int.toNat p7)) (p11 (0 + Int.toNat p7)) (p12 (0 + Int.toNat p7))))) (Ar.run Ar.mx IntKind.i64 (AF.val (abuA a0 a1 a2 a3 a4 a5 a6 a7 a8 a9 a10 a11 a12 (p16 (0 + Int.toNat p7)) (p11 (0 + Int.toNat p7)) (p12 (0 + Int.toNat p7)))) (AF.val (abuA a0 a1 a2 a3 a4 a5 a6 a7 a8 a9 a10 a11 a12 (p16 (0 + Int.toNat p7)) (p11 (0 + Int.toNat p7)) (p12 (0 + Int.toNat p7)))))) [0, 1, 2, 3, 4]))
   (.leaf (.next (.n0 p0 p1 p2 p3 p4 true true (Ar.run Ar.add IntKind.i64 p7 1) p8 p9 p10 (fun i => p11 i) (fun i => p12 i) (fun i => p13 i) (fun i => p14 i) (fun i => p15 i) (fun i => p16 i) (fun i => p17 i) (fun i => p18 i) (Ar.run Ar.mn IntKind.i64 p19 (AF.val (abuA a0 a1 a2 a3 a4 a5 a6 a7 a8 a9 a10 a11 a12 (p16 (0 + Int.toNat p7)) (p11 (0 + Int.toNat p7)) (p12 (0 + Int.toNat p7))))) (Ar.run Ar.mx IntKind.i64 p20 (AF.val (abuA a0 a1 a2 a3 a4 a5 a6 a7 a8 a9 a10 a11 a12 (p16 (0 + Int.toNat p7)) (p11 (0 + Int.toNat p7)) (p12 (0 + Int.toNat p7)))))) [0, 1, 2, 3, 4]))))))))))
   (.leaf (.next (.n0 p0 p1 p2 p3 p4 true true (Ar.run Ar.add IntKind.i64 p7 1) p8 p9 p10 (fun i => p11 i) (fun i => p12 i) (fun i => p13 i) (fun i => p14 i) (fun i => p15 i) (fun i => p16 i) (fun i => p17 i) (fun i => p18 i) p19 p20) [0, 1, 2, 3, 4])))
   (.leaf (.next (.n0 p0 p1 p2 p3 p4 true true (Ar.run Ar.add IntKind.i64 p7 1) p8 p9 p10 (fun i => p11 i) (fun i => p12 i) (fun i => p13 i) (fun i => p14 i) (fun i => p15 i) (fun i => p16 i) (fun i => p17 i) (fun i => p18 i) p19 p20) [0, 1, 2, 3, 4])))
   (.leaf (.next (.n0 p0 p1 p2 p3 p4 true true (Ar.run Ar.add IntKind.i64 p7 1) p8 p9 p10 (fun i => p11 i) (fun i => p12 i) (fun i => p13 i) (fun i => p14 i) (fun i => p15 i) (fun i => p16 i) (fun i => p17 i) (fun i => p18 i) p19 p20) [0, 1, 2, 3, 4]))))
   (.ask (p6)
   (.ask (Cm.run Cm.geq a13 0)
   (.ask (Cm.run Cm.leq a13 a14)
   (.ask (Cm.run Cm.leq a14 100000000)
   (.must (decide (0 ≤ p7))
   (.must (decide (p7 < (↑p4 : Int)))
   (.must (decide (0 + Int.toNat p7 < p10))
   (.must (decide (0 ≤ p7))
   (.must (decide (p7 < (↑p4 : Int)))
   (.must (decide (0 + Int.toNat p7 < p10))
   (.must (AF.fin (abuA a0 a1 a2 a3 a4 a5 a6 a7 a8 a9 a10 a11 a12 (p16 (0 + Int.toNat p7)) (p11 (0 + Int.toNat p7)) (p12 (0 + Int.toNat p7))))
   (.ask (Cm.run Cm.eql p7 0)
   (.leaf (.next (.n0 p0 p1 p2 p3 p4 false true (Ar.run Ar.add IntKind.i64 p7 1) p8 p9 p10 (fun i => p11 i) (fun i => p12 i) (fun i => p13 i) (fun i => p14 i) (fun i => p15 i) (fun i => p16 i) (fun i => p17 i) (fun i => p18 i) (Ar.run Ar.mn IntKind.i64 (AF.val (abuA a0 a1 a2 a3 a4 a5 a6 a7 a8 a9 a10 a11 a12 (p16 (0 + Int.toNat p7)) (p11 (0 + Int.toNat p7)) (p12 (0 + Int.toNat p7)))) (AF.val (abuA a0 a1 a2 a3 a4 a5 a6 a7 a8 a9 a10 a11 a12 (p16 (0 + Int.toNat p7)) (p11 (0 + Int.toNat p7)) (p12 (0 + Int.toNat p7))))) (Ar.run Ar.mx IntKind.i64 (AF.val (abuA a0 a1 a2 a3 a4 a5 a6 a7 a8 a9 a10 a11 a12 (p16 (0 + Int.toNat p7)) (p11 (0 + Int.toNat p7)) (p12 (0 + Int.toNat p7)))) (AF.val (abuA a0 a1 a2 a3 a4 a5 a6 a7 a8 a9 a10 a11 a12 (p16 (0 + Int.toNat p7)) (p11 (0 + Int.toNat p7)) (p12 (0 + Int.toNat p7)))))) [0, 1, 2, 3, 4]))
   (.leaf (.next (.n0 p0 p1 p2 p3 p4 false true (Ar.run Ar.add IntKind.i64 p7 1) p8 p9 p10 (fun i => p11 i) (fun i => p12 i) (fun i => p13 i) (fun i => p14 i) (fun i => p15 i) (fun i => p16 i) (fun i => p17 i) (fun i => p18 i) (Ar.run Ar.mn IntKind.i64 p19 (AF.val (abuA a0 a1 a2 a3 a4 a5 a6 a7 a8 a9 a10 a11 a12 (p16 (0 + Int.toNat p7)) (p11 (0 + Int.toNat p7)) (p12 (0 + Int.toNat p7))))) (Ar.run Ar.mx IntKind.i64 p20 (AF.val (abuA a0 a1 a2 a3 a4 a5 a6 a7 a8 a9 a10 a11 a12 (p16 (0 + Int.toNat p7)) (p11 (0 + Int.toNat p7)) (p12 (0 + Int.toNat p7)))))) [0, 1, 2, 3, 4]))))))))))
   (.leaf (.next (.n0 p0 p1 p2 p3 p4 false true (Ar.run Ar.add IntKind.i64 p7 1) p8 p9 p10 (fun i => p11 i) (fun i => p12 i) (fun i => p13 i) (fun i => p14 i) (fun i => p15 i) (fun i => p16 i) (fun i => p17 i) (fun i => p18 i) p19 p20) [0, 1, 2, 3, 4])))
   (.leaf (.next (.n0 p0 p1 p2 p3 p4 false true (Ar.run Ar.add IntKind.i64 p7 1) p8 p9 p10 (fun i => p11 i) (fun i => p12 i) (fun i => p13 i) (fun i => p14 i) (fun i => p15 i) (fun i => p16 i) (fun i => p17 i) (fun i => p18 i) p19 p20) [0, 1, 2, 3, 4])))
   (.leaf (.next (.n0 p0 p1 p2 p3 p4 false true (Ar.run Ar.add IntKind.i64 p7 1) p8 p9 p10 (fun i => p11 i) (fun i => p12 i) (fun i => p13 i) (fun i => p14 i) (fun i => p15 i) (fun i => p16 i) (fun i => p17 i) (fun i => p18 i) p19 p20) [0, 1, 2, 3, 4])))
   (.ask (Cm.run Cm.geq a13 0)
   (.ask (Cm.run Cm.leq a13 a14)
   (.ask (Cm.run Cm.leq a14 100000000)
   (.must (decide (0 ≤ p7))
   (.must (decide (p7 < (↑p4 : Int)))
   (.must (decide (0 + Int.toNat p7 < p10))
   (.must (decide (0 ≤ p7))
   (.must (decide (p7 < (↑p4 : Int)))
   (.must (decide (0 + Int.toNat p7 < p10))
   (.must (AF.fin (abuA a0 a1 a2 a3 a4 a5 a6 a7 a8 a9 a10 a11 a12 (p16 (0 + Int.toNat p7)) (p11 (0 + Int.toNat p7)) (p12 (0 + Int.toNat p7))))
   (.ask (Cm.run Cm.eql p7 0)
   (.leaf (.next (.n0 p0 p1 p2 p3 p4 false true (Ar.run Ar.add IntKind.i64 p7 1) p8 p9 p10 (fun i => p11 i) (fun i => p12 i) (fun i => p13 i) (fun i => p14 i) (fun i => p15 i) (fun i => p16 i) (fun i => p17 i) (fun i => p18 i) (Ar.run Ar.mn IntKind.i64 (AF.val (abuA a0 a1 a2 a3 a4 a5 a6 a7 a8 a9 a10 a11 a12 (p16 (0 + Int.toNat p7)) (p11 (0 + Int.toNat p7)) (p12 (0 + Int.toNat p7)))) (AF.val (abuA a0 a1 a2 a3 a4 a5 a6 a7 a8 a9 a10 a11 a12 (p16 (0 + Int.toNat p7)) (p11 (0 + Int.toNat p7)) (p12 (0 + Int.toNat p7))))) (Ar.run Ar.mx IntKind.i64 (AF.val (abuA a0 a1 a2 a3 a4 a5 a6 a7 a8 a9 a10 a11 a12 (p16 (0 + Int.toNat p7)) (p11 (0 + Int.toNat p7)) (p12 (0 + Int.toNat p7)))) (AF.val (abuA a0 a1 a2 a3 a4 a5 a6 a7 a8 a9 a10 a11 a12 (p16 (0 + Int.toNat p7)) (p11 (0 + Int.toNat p7)) (p12 (0 + Int.toNat p7)))))) [0, 1, 2, 3, 4]))
   (.leaf (.next (.n0 p0 p1 p2 p3 p4 false true (Ar.run Ar.add IntKind.i64 p7 1) p8 p9 p10 (fun i => p11 i) (fun i => p12 i) (fun i => p13 i) (fun i => p14 i) (fun i => p15 i) (fun i => p16 i) (fun i => p17 i) (fun i => p18 i) (Ar.run Ar.mn IntKind.i64 p19 (AF.val (abuA a0 a1 a2 a3 a4 a5 a6 a7 a8 a9 a10 a11 a12 (p16 (0 + Int.toNat p7)) (p11 (0 + Int.toNat p7)) (p12 (0 + Int.toNat p7))))) (Ar.run Ar.mx IntKind.i64 p20 (AF.val (abuA a0 a1 a2 a3 a4 a5 a6 a7 a8 a9 a10 a11 a12 (p16 (0 + Int.toNat p7)) (p11 (0 + Int.toNat p7)) (p12 (0 + Int.toNat p7)))))) [0, 1, 2, 3, 4]))))))))))
   (.leaf (.next (.n0 p0 p1 p2 p3 p4 false true (Ar.run Ar.add IntKind.i64 p7 1) p8 p9 p10 (fun i => p11 i) (fun i => p12 i) (fun i => p13 i) (fun i => p14 i) (fun i => p15 i) (fun i => p16 i) (fun i => p17 i) (fun i => p18 i) p19 p20) [0, 1, 2, 3, 4])))
   (.leaf (.next (.n0 p0 p1 p2 p3 p4 false true (Ar.run Ar.add IntKind.i64 p7 1) p8 p9 p10 (fun i => p11 i) (fun i => p12 i) (fun i => p13 i) (fun i => p14 i) (fun i => p15 i) (fun i => p16 i) (fun i => p17 i) (fun i => p18 i) p19 p20) [0, 1, 2, 3, 4])))
   (.leaf (.next (.n0 p0 p1 p2 p3 p4 false true (Ar.run Ar.add IntKind.i64 p7 1) p8 p9 p10 (fun i => p11 i) (fun i => p12 i) (fun i => p13 i) (fun i => p14 i) (fun i => p15 i) (fun i => p16 i) (fun i => p17 i) (fun i => p18 i) p19 p20) [0, 1, 2, 3, 4])))))
   (.ask (p5)
   (.ask (p6)
   (.ask (Cm.run Cm.geq a13 0)
   (.ask (Cm.run Cm.leq a13 a14)
   (.ask (Cm.run Cm.leq a14 100000000)
   (.must (decide (0 ≤ p7))
   (.must (decide (p7 < (↑p4 : Int)))
   (.must (decide (0 + Int.toNat p7 < p10))
   (.must (decide (0 ≤ p7))
   (.must (decide (p7 < (↑p4 : Int)))
   (.must (decide (0 + Int.toNat p7 < p10))
   (.must (AF.fin (abuA a0 a1 a2 a3 a4 a5 a6 a7 a8 a9 a10 a11 a12 (p16 (0 + Int.toNat p7)) (p11 (0 + Int.toNat p7)) (p12 (0 + Int.toNat p7))))
   (.ask (Cm.run Cm.eql p7 0)
   (.leaf (.next (.n0 p0 p1 p2 p3 p4 false true (Ar.run Ar.add IntKind.i64 p7 1) p8 p9 p10 (fun i => p11 i) (fun i => p12 i) (fun i => p13 i) (fun i => p14 i) (fun i => p15 i) (fun i => p16 i) (fun i => p17 i) (fun i => p18 i) (Ar.run Ar.mn IntKind.i64 (AF.val (abuA a0 a1 a2 a3 a4 a5 a6 a7 a8 a9 a10 a11 a12 (p16 (0 + Int.toNat p7)) (p11 (0 + Int.toNat p7)) (p12 (0 + Int.toNat p7)))) (AF.val (abuA a0 a1 a2 a3 a4 a5 a6 a7 a8 a9 a10 a11 a12 (p16 (0 + Int.toNat p7)) (p11 (0 + Int.toNat p7)) (p12 (0 + Int.toNat p7))))) (Ar.run Ar.mx IntKind.i64 (AF.val (abuA a0 a1 a2 a3 a4 a5 a6 a7 a8 a9 a10 a11 a12 (p16 (0 + Int.toNat p7)) (p11 (0 + Int.toNat p7)) (p12 (0 + Int.toNat p7)))) (AF.val (abuA a0 a1 a2 a3 a4 a5 a6 a7 a8 a9 a10 a11 a12 (p16 (0 + Int.toNat p7)) (p11 (0 + Int.toNat p7)) (p12 (0 + Int.toNat p7)))))) [0, 1, 2, 3, 4]))
   (.leaf (.next (.n0 p0 p1 p2 p3 p4 false true (Ar.run Ar.add IntKind.i64 p7 1) p8 p9 p10 (fun i => p11 i) (fun i => p12 i) (fun i => p13 i) (fun i => p14 i) (fun i => p15 i) (fun i => p16 i) (fun i => p17 i) (fun i => p18 i) (Ar.run Ar.mn IntKind.i64 p19 (AF.val (abuA a0 a1 a2 a3 a4 a5 a6 a7 a8 a9 a10 a11 a12 (p16 (0 + Int.toNat p7)) (p11 (0 + Int.toNat p7)) (p12 (0 + Int.toNat p7))))) (Ar.run Ar.mx IntKind.i64 p20 (AF.val (abuA a0 a1 a2 a3 a4 a5 a6 a7 a8 a9 a10 a11 a12 (p16 (0 + Int.toNat p7)) (p11 (0 + Int.toNat p7)) (p12 (0 + Int.toNat p7)))))) [0, 1, 2, 3, 4]))))))))))
   (.leaf (.next (.n0 p0 p1 p2 p3 p4 false true (Ar.run Ar.add IntKind.i64 p7 1) p8 p9 p10 (fun i => p11 i) (fun i => p12 i) (fun i => p13 i) (fun i => p14 i) (fun i => p15 i) (fun i => p16 i) (fun i => p17 i) (fun i => p18 i) p19 p20) [0, 1, 2, 3, 4])))
   (.leaf (.next (.n0 p0 p1 p2 p3 p4 false true (Ar.run Ar.add IntKind.i64 p7 1) p8 p9 p10 (fun i => p11 i) (fun i => p12 i) (fun i => p13 i) (fun i => p14 i) (fun i => p15 i) (fun i => p16 i) (fun i => p17 i) (fun i => p18 i) p19 p20) [0, 1, 2, 3, 4])))
   (.leaf (.next (.n0 p0 p1 p2 p3 p4 false true (Ar.run Ar.add IntKind.i64 p7 1) p8 p9 p10 (fun i => p11 i) (fun i => p12 i) (fun i => p13 i) (fun i => p14 i) (fun i => p15 i) (fun i => p16 i) (fun i => p17 i) (fun i => p18 i) p19 p20) [0, 1, 2, 3, 4])))
   (.ask (Cm.run Cm.geq a13 0)
   (.ask (Cm.run Cm.leq a13 a14)
   (.ask (Cm.run Cm.leq a14 100000000)
   (.must (decide (0 ≤ p7))
   (.must (decide (p7 < (↑p4 : Int)))
   (.must (decide (0 + Int.toNat p7 < p10))
   (.must (decide (0 ≤ p7))
   (.must (decide (p7 < (↑p4 : Int)))
   (.must (decide (0 + Int.toNat p7 < p10))
   (.must (AF.fin (abuA a0 a1 a2 a3 a4 a5 a6 a7 a8 a9 a10 a11 a12 (p16 (0 + Int.toNat p7)) (p11 (0 + Int.toNat p7)) (p12 (0 + Int.toNat p7))))
   (.ask (Cm.run Cm.eql p7 0)
   (.leaf (.next (.n0 p0 p1 p2 p3 p4 false false (Ar.run Ar.add IntKind.i64 p7 1) p8 p9 p10 (fun i => p11 i) (fun i => p12 i) (fun i => p13 i) (fun i => p14 i) (fun i => p15 i) (fun i => p16 i) (fun i => p17 i) (fun i => p18 i) (Ar.run Ar.mn IntKind.i64 (AF.val (abuA a0 a1 a2 a3 a4 a5 a6 a7 a8 a9 a10 a11 a12 (p16 (0 + Int.toNat p7)) (p11 (0 + Int.toNat p7)) (p12 (0 + Int.toNat p7)))) (AF.val (abuA a0 a1 a2 a3 a4 a5 a6 a7 a8 a9 a10 a11 a12 (p16 (0 + Int.toNat p7)) (p11 (0 + Int.toNat p7)) (p12 (0 + Int.toNat p7))))) (Ar.run Ar.mx IntKind.i64 (AF.val (abuA a0 a1 a2 a3 a4 a5 a6 a7 a8 a9 a10 a11 a12 (p16 (0 + Int.toNat p7)) (p11 (0 + Int.toNat p7)) (p12 (0 + Int.toNat p7)))) (AF.val (abuA a0 a1 a2 a3 a4 a5 a6 a7 a8 a9 a10 a11 a12 (p16 (0 + Int.toNat p7)) (p11 (0 + Int.toNat p7)) (p12 (0 + Int.toNat p7)))))) [0, 1, 2, 3, 4]))
   (.leaf (.next (.n0 p0 p1 p2 p3 p4 false false (Ar.run Ar.add IntKind.i64 p7 1) p8 p9 p10 (fun i => p11 i) (fun i => p12 i) (fun i => p13 i) (fun i => p14 i) (fun i => p15 i) (fun i => p16 i) (fun i => p17 i) (fun i => p18 i) (Ar.run Ar.mn IntKind.i64 p19 (AF.val (abuA a0 a1 a2 a3 a4 a5 a6 a7 a8 a9 a10 a11 a12 (p16 (0 + Int.toNat p7)) (p11 (0 + Int.toNat p7)) (p12 (0 + Int.toNat p7))))) (Ar.run Ar.mx IntKind.i64 p20 (AF.val (abuA a0 a1 a2 a3 a4 a5 a6 a7 a8 a9 a10 a11 a12 (p16 (0 + Int.toNat p7)) (p11 (0 + Int.toNat p7)) (p12 (0 + Int.toNat p7)))))) [0, 1, 2, 3, 4]))))))))))
   (.leaf (.next (.n0 p0 p1 p2 p3 p4 false false (Ar.run Ar.add IntKind.i64 p7 1) p8 p9 p10 (fun i => p11 i) (fun i => p12 i) (fun i => p13 i) (fun i => p14 i) (fun i => p15 i) (fun i => p16 i) (fun i => p17 i) (fun i => p18 i) p19 p20) [0, 1, 2, 3, 4])))
   (.leaf (.next (.n0 p0 p1 p2 p3 p4 false false (Ar.run Ar.add IntKind.i64 p7 1) p8 p9 p10 (fun i => p11 i) (fun i => p12 i) (fun i => p13 i) (fun i => p14 i) (fun i => p15 i) (fun i => p16 i) (fun i => p17 i) (fun i => p18 i) p19 p20) [0, 1, 2, 3, 4])))
   (.leaf (.next (.n0 p0 p1 p2 p3 p4 false false (Ar.run Ar.add IntKind.i64 p7 1) p8 p9 p10 (fun i => p11 i) (fun i => p12 i) (fun i => p13 i) (fun i => p14 i) (fun i => p15 i) (fun i => p16 i) (fun i => p17 i) (fun i => p18 i) p19 p20) [0, 1, 2, 3, 4]))))
   (.ask (p6)
   (.ask (Cm.run Cm.geq a13 0)
   (.ask (Cm.run Cm.leq a13 a14)
   (.ask (Cm.run Cm.leq a14 100000000)
   (.must (decide (0 ≤ p7))
   (.must (decide (p7 < (↑p4 : Int)))
   (.must (decide (0 + Int.toNat p7 < p10))
   (.must (decide (0 ≤ p7))
   (.must (decide (p7 < (↑p4 : Int)))
   (.must (decide (0 + Int.toNat p7 < p10))
   (.must (AF.fin (abuA a0 a1 a2 a3 a4 a5 a6 a7 a8 a9 a10 a11 a12 (p16 (0 + Int.toNat p7)) (p11 (0 + Int.toNat p7)) (p12 (0 + Int.toNat p7))))
   (.ask (Cm.run Cm.eql p7 0)
   (.leaf (.next (.n0 p0 p1 p2 p3 p4 false true (Ar.run Ar.add IntKind.i64 p7 1) p8 p9 p10 (fun i => p11 i) (fun i => p12 i) (fun i => p13 i) (fun i => p14 i) (fun i => p15 i) (fun i => p16 i) (fun i => p17 i) (fun i => p18 i) (Ar.run Ar.mn IntKind.i64 (AF.val (abuA a0 a1 a2 a3 a4 a5 a6 a7 a8 a9 a10 a11 a12 (p16 (0 + Int.toNat p7)) (p11 (0 + Int.toNat p7)) (p12 (0 + Int.toNat p7)))) (AF.val (abuA a0 a1 a2 a3 a4 a5 a6 a7 a8 a9 a10 a11 a12 (p16 (0 + Int.toNat p7)) (p11 (0 + Int.toNat p7)) (p12 (0 + Int.toNat p7))))) (Ar.run Ar.mx IntKind.i64 (AF.val (abuA a0 a1 a2 a3 a4 a5 a6 a7 a8 a9 a10 a11 a12 (p16 (0 + Int.toNat p7)) (p11 (0 + Int.toNat p7)) (p12 (0 + Int.toNat p7)))) (AF.val (abuA a0 a1 a2 a3 a4 a5 a6 a7 a8 a9 a10 a11 a12 (p16 (0 + Int.toNat p7)) (p11 (0 + Int.toNat p7)) (p12 (0 + Int.toNat p7)))))) [0, 1, 2, 3, 4]))
   (.leaf (.next (.n0 p0 p1 p2 p3 p4 false true (Ar.run Ar.add IntKind.i64 p7 1) p8 p9 p10 (fun i => p11 i) (fun i => p12 i) (fun i => p13 i) (fun i => p14 i) (fun i => p15 i) (fun i => p16 i) (fun i => p17 i) (fun i => p18 i) (Ar.run Ar.mn IntKind.i64 p19 (AF.val (abuA a0 a1 a2 a3 a4 a5 a6 a7 a8 a9 a10 a11 a12 (p16 (0 + Int.toNat p7)) (p11 (0 + Int.toNat p7)) (p12 (0 + Int.toNat p7))))) (Ar.run Ar.mx IntKind.i64 p20 (AF.val (abuA a0 a1 a2 a3 a4 a5 a6 a7 a8 a9 a10 a11 a12 (p16 (0 + Int.toNat p7)) (p11 (0 + Int.toNat p7)) (p12 (0 + Int.toNat p7)))))) [0, 1, 2, 3, 4]))))))))))
   (.leaf (.next (.n0 p0 p1 p2 p3 p4 false true (Ar.run Ar.add IntKind.i64 p7 1) p8 p9 p10 (fun i => p11 i) (fun i => p12 i) (fun i => p13 i) (fun i => p14 i) (fun i => p15 i) (fun i => p16 i) (fun i => p17 i) (fun i => p18 i) p19 p20) [0, 1, 2, 3, 4])))
   (.leaf (.next (.n0 p0 p1 p2 p3 p4 false true (Ar.run Ar.add IntKind.i64 p7 1) p8 p9 p10 (fun i => p11 i) (fun i => p12 i) (fun i => p13 i) (fun i => p14 i) (fun i => p15 i) (fun i => p16 i) (fun i => p17 i) (fun i => p18 i) p19 p20) [0, 1, 2, 3, 4])))
   (.leaf (.next (.n0 p0 p1 p2 p3 p4 false true (Ar.run Ar.add IntKind.i64 p7 1) p8 p9 p10 (fun i => p11 i) (fun i => p12 i) (fun i => p13 i) (fun i => p14 i) (fun i => p15 i) (fun i => p16 i) (fun i => p17 i) (fun i => p18 i) p19 p20) [0, 1, 2, 3, 4])))
   (.ask (Cm.run Cm.geq a13 0)
   (.ask (Cm.run Cm.leq a13 a14)
   (.ask (Cm.run Cm.leq a14 100000000)
   (.must (decide (0 ≤ p7))
   (.must (decide (p7 < (↑p4 : Int)))
   (.must (decide (0 + Int.toNat p7 < p10))
   (.must (decide (0 ≤ p7))
   (.must (decide (p7 < (↑p4 : Int)))
   (.must (decide (0 + Int.toNat p7 < p10))
   (.must (AF.fin (abuA a0 a1 a2 a3 a4 a5 a6 a7 a8 a9 a10 a11 a12 (p16 (0 + Int.toNat p7)) (p11 (0 + Int.toNat p7)) (p12 (0 + Int.toNat p7))))
   (.ask (Cm.run Cm.eql p7 0)
   (.leaf (.next (.n0 p0 p1 p2 p3 p4 false false (Ar.run Ar.add IntKind.i64 p7 1) p8 p9 p10 (fun i => p11 i) (fun i => p12 i) (fun i => p13 i) (fun i => p14 i) (fun i => p15 i) (fun i => p16 i) (fun i => p17 i) (fun i => p18 i) (Ar.run Ar.mn IntKind.i64 (AF.val (abuA a0 a1 a2 a3 a4 a5 a6 a7 a8 a9 a10 a11 a12 (p16 (0 + Int.toNat p7)) (p11 (0 + Int.toNat p7)) (p12 (0 + Int.toNat p7)))) (AF.val (abuA a0 a1 a2 a3 a4 a5 a6 a7 a8 a9 a10 a11 a12 (p16 (0 + Int.toNat p7)) (p11 (0 + Int.toNat p7)) (p12 (0 + Int.toNat p7))))) (Ar.run Ar.mx IntKind.i64 (AF.val (abuA a0 a1 a2 a3 a4 a5 a6 a7 a8 a9 a10 a11 a12 (p16 (0 + Int.toNat p7)) (p11 (0 + Int.toNat p7)) (p12 (0 + Int.toNat p7)))) (AF.val (abuA a0 a1 a2 a3 a4 a5 a6 a7 a8 a9 a10 a11 a12 (p16 (0 + Int.toNat p7)) (p11 (0 + Int.toNat p7)) (p12 (0 + Int.toNat p7)))))) [0, 1, 2, 3, 4]))
   (.leaf (.next (.n0 p0 p1 p2 p3 p4 false false (Ar.run Ar.add IntKind.i64 p7 1) p8 p9 p10 (fun i => p11 i) (fun i => p12 i) (fun i => p13 i) (fun i => p14 i) (fun i => p15 i) (fun i => p16 i) (fun i => p17 i) (fun i => p18 i) (Ar.run Ar.mn IntKind.i64 p19 (AF.val (abuA a0 a1 a2 a3 a4 a5 a6 a7 a8 a9 a10 a11 a12 (p16 (0 + Int.toNat p7)) (p11 (0 + Int.toNat p7)) (p12 (0 + Int.toNat p7))))) (Ar.run Ar.mx IntKind.i64 p20 (AF.val (abuA a0 a1 a2 a3 a4 a5 a6 a7 a8 a9 a10 a11 a12 (p16 (0 + Int.toNat p7)) (p11 (0 + Int.toNat p7)) (p12 (0 + Int.toNat p7)))))) [0, 1, 2, 3, 4]))))))))))
   (.leaf (.next (.n0 p0 p1 p2 p3 p4 false false (Ar.run Ar.add IntKind.i64 p7 1) p8 p9 p10 (fun i => p11 i) (fun i => p12 i) (fun i => p13 i) (fun i => p14 i) (fun i => p15 i) (fun i => p16 i) (fun i => p17 i) (fun i => p18 i) p19 p20) [0, 1, 2, 3, 4])))
   (.leaf (.next (.n0 p0 p1 p2 p3 p4 false false (Ar.run Ar.add IntKind.i64 p7 1) p8 p9 p10 (fun i => p11 i) (fun i => p12 i) (fun i => p13 i) (fun i => p14 i) (fun i => p15 i) (fun i => p16 i) (fun i => p17 i) (fun i => p18 i) p19 p20) [0, 1, 2, 3, 4])))
   (.leaf (.next (.n0 p0 p1 p2 p3 p4 false false (Ar.run Ar.add IntKind.i64 p7 1) p8 p9 p10 (fun i => p11 i) (fun i => p12 i) (fun i => p13 i) (fun i => p14 i) (fun i => p15 i) (fun i => p16 i) (fun i => p17 i) (fun i => p18 i) p19 p20) [0, 1, 2, 3, 4]))))))))))
   (.ask (Cm.run Cm.neq p2 0)
   (.leaf (.done false []))
   (.ask (p0)
   (.ask (p5)
   (.ask (p1)
   (.ask (p6)
   (.ask (Cm.run Cm.geq a13 0)
   (.ask (Cm.run Cm.leq a13 a14)
   (.ask (Cm.run Cm.leq a14 100000000)
   (.ask (Cm.run Cm.eql p3 0)
   (.ask (Cm.run Cm.eql p8 p19)
   (.ask (Cm.run Cm.eql p9 p20)
   (.leaf (.done true []))
   (.leaf (.done false [])))
   (.leaf (.done false [])))
   (.leaf (.done false [])))
   (.ask (Cm.run Cm.eql p3 3)
   (.ask (Cm.run Cm.eql p8 0)
   (.ask (Cm.run Cm.eql p9 0)
   (.leaf (.done true []))
   (.leaf (.done false [])))
   (.leaf (.done false [])))
   (.leaf (.done false []))))
   (.ask (Cm.run Cm.eql p3 3)
   (.ask (Cm.run Cm.eql p8 0)
   (.ask (Cm.run Cm.eql p9 0)
   (.leaf (.done true []))
   (.leaf (.done false [])))
   (.leaf (.done false [])))
   (.leaf (.done false []))))
   (.ask (Cm.run Cm.eql p3 3)
   (.ask (Cm.run Cm.eql p8 0)
   (.ask (Cm.run Cm.eql p9 0)
   (.leaf (.done true []))
   (.leaf (.done false [])))
   (.leaf (.done false [])))
   (.leaf (.done false []))))
   (.leaf (.done false [])))
   (.ask (p6)
   (.leaf (.done false []))
   (.ask (Cm.run Cm.geq a13 0)
   (.ask (Cm.run Cm.leq a13 a14)
   (.ask (Cm.run Cm.leq a14 100000000)
   (.ask (Cm.run Cm.eql p3 0)
   (.ask (Cm.run Cm.eql p8 p19)
   (.ask (Cm.run Cm.eql p9 p20)
   (.leaf (.done true []))
   (.leaf (.done false [])))
   (.leaf (.done false [])))
   (.leaf (.done false [])))
   (.ask (Cm.run Cm.eql p3 3)
   (.ask (Cm.run Cm.eql p8 0)
   (.ask (Cm.run Cm.eql p9 0)
   (.leaf (.done true []))
   (.leaf (.done false [])))
   (.leaf (.done false [])))
   (.leaf (.done false []))))
   (.ask (Cm.run Cm.eql p3 3)
   (.ask (Cm.run Cm.eql p8 0)
   (.ask (Cm.run Cm.eql p9 0)
   (.leaf (.done true []))
   (.leaf (.done false [])))
   (.leaf (.done false [])))
   (.leaf (.done false []))))
   (.ask (Cm.run Cm.eql p3 3)
   (.ask (Cm.run Cm.eql p8 0)
   (.ask (Cm.run Cm.eql p9 0)
   (.leaf (.done true []))
   (.leaf (.done false [])))
   (.leaf (.done false [])))
   (.leaf (.done false []))))))
   (.leaf (.done false [])))
   (.ask (p5)
   (.leaf (.done false []))
   (.ask (p1)
   (.ask (p6)
   (.ask (Cm.run Cm.geq a13 0)
   (.ask (Cm.run Cm.leq a13 a14)
   (.ask (Cm.run Cm.leq a14 100000000)
   (.ask (Cm.run Cm.eql p3 0)
   (.ask (Cm.run Cm.eql p8 p19)
   (.ask (Cm.run Cm.eql p9 p20)
   (.leaf (.done true []))
   (.leaf (.done false [])))
   (.leaf (.done false [])))
   (.leaf (.done false [])))
   (.ask (Cm.run Cm.eql p3 3)
   (.ask (Cm.run Cm.eql p8 0)
   (.ask (Cm.run Cm.eql p9 0)
   (.leaf (.done true []))
   (.leaf (.done false [])))
   (.leaf (.done false [])))
   (.leaf (.done false []))))
   (.ask (Cm.run Cm.eql p3 3)
   (.ask (Cm.run Cm.eql p8 0)
   (.ask (Cm.run Cm.eql p9 0)
   (.leaf (.done true []))
   (.leaf (.done false [])))
   (.leaf (.done false [])))
   (.leaf (.done false []))))
   (.ask (Cm.run Cm.eql p3 3)
   (.ask (Cm.run Cm.eql p8 0)
   (.ask (Cm.run Cm.eql p9 0)
   (.leaf (.done true []))
   (.leaf (.done false [])))
   (.leaf (.done false [])))
   (.leaf (.done false []))))
   (.leaf (.done false [])))
   (.ask (p6)
   (.leaf (.done false []))
   (.ask (Cm.run Cm.geq a13 0)
   (.ask (Cm.run Cm.leq a13 a14)
   (.ask (Cm.run Cm.leq a14 100000000)
   (.ask (Cm.run Cm.eql p3 0)
   (.ask (Cm.run Cm.eql p8 p19)
   (.ask (Cm.run Cm.eql p9 p20)
   (.leaf (.done true []))
   (.leaf (.done false [])))
   (.leaf (.done false [])))
   (.leaf (.done false [])))
   (.ask (Cm.run Cm.eql p3 3)
   (.ask (Cm.run Cm.eql p8 0)
   (.ask (Cm.run Cm.eql p9 0)
   (.leaf (.done true []))
   (.leaf (.done false [])))
   (.leaf (.done false [])))
   (.leaf (.done false []))))
   (.ask (Cm.run Cm.eql p3 3)
   (.ask (Cm.run Cm.eql p8 0)
   (.ask (Cm.run Cm.eql p9 0)
   (.leaf (.done true []))
   (.leaf (.done false [])))
   (.leaf (.done false [])))
   (.leaf (.done false []))))
   (.ask (Cm.run Cm.eql p3 3)
   (.ask (Cm.run Cm.eql p8 0)
   (.ask (Cm.run Cm.eql p9 0)
   (.leaf (.done true []))
   (.leaf (.done false [])))
   (.leaf (.done false [])))
   (.leaf (.done false [])))))))))

noncomputable def aloA (a0 : Int) (a1 : Int) (a2 : Int) (a3 : Int) (a4 : Int) (a5 : Int) (a6 : Int) (a7 : Int) (a8 : Int) (a9 : Int) (a10 : Int) (a11 : Int) (a12 : Int) (a13 : Int) (a14 : Int) : AF aloN aloR where
  code := aloCode
  base := 0
  nt := 149
  m := 400
  un := []
  W := []
  h0 := []
  args := [.agg [.int .i64 (.x a0), .int .i64 (.x a1), .int .i64 (.x a2), .int .i64 (.x a3), .int .i64 (.x a4), .int .i64 (.x a5), .int .i64 (.x a6), .int .i64 (.x a7), .int .i64 (.x a8), .int .i64 (.x a9), .int .i64 (.x a10), .int .i64 (.x a11), .int .i64 (.x a12)], .agg [.int .i64 (.x a13), .int .i64 (.x a14)]]
  res := (Try.f6).results.toList
  path := fun a => match a with
   | .n0 p0 p1 p2 p3 p4 p5 p6 p7 p8 p9 p10 p11 p12 p13 p14 p15 p16 p17 p18 p19 p20 => [1, 1, 1, 1, 1, 1, 0, 1, 0]
  pd := fun a => match a with
   | .n0 p0 p1 p2 p3 p4 p5 p6 p7 p8 p9 p10 p11 p12 p13 p14 p15 p16 p17 p18 p19 p20 => ⟨[(2, .ptr (some (0, 0))), (3, .ptr (some (1, 0))), (5, .bool (.x p0)), (6, .bool (.x p1)), (7, .int .i64 (.x p2)), (8, .ptr (some (2, 0))), (9, .int .i64 (.x p3)), (10, .sla 3 8 0 p4), (11, .bool (.x p5)), (12, .bool (.x p6)), (13, .ptr (some (4, 0))), (14, .int .i64 (.x p7))], [(0, ⟨.lit [.int .i64 (.x a0), .int .i64 (.x a1), .int .i64 (.x a2), .int .i64 (.x a3), .int .i64 (.x a4), .int .i64 (.x a5), .int .i64 (.x a6), .int .i64 (.x a7), .int .i64 (.x a8), .int .i64 (.x a9), .int .i64 (.x a10), .int .i64 (.x a11), .int .i64 (.x a12)], 0, true, none⟩), (1, ⟨.lit [.int .i64 (.x a13), .int .i64 (.x a14)], 0, true, none⟩), (2, ⟨.lit [.int .i64 (.x p8), .int .i64 (.x p9)], 0, true, none⟩), (3, ⟨.rows p10 8 (fun i => [.int .i64 (.x (p11 i)), .int .i64 (.x (p12 i)), .int .i64 (.x (p13 i)), .int .i64 (.x (p14 i)), .int .i64 (.x (p15 i)), .int .i64 (.x (p16 i)), .int .i64 (.x (p17 i)), .int .i64 (.x (p18 i))]) (fun _ => ⟨rfl, rfl⟩), 8, true, none⟩), (4, ⟨.lit [.int .i64 (.x p19), .int .i64 (.x p20)], 0, true, none⟩)], 5, []⟩
  D0 := aloD0 a0 a1 a2 a3 a4 a5 a6 a7 a8 a9 a10 a11 a12 a13 a14
  D := aloD a0 a1 a2 a3 a4 a5 a6 a7 a8 a9 a10 a11 a12 a13 a14
  rc := (fun v => .bool (.x v))
  rh := (fun v => [])
  rn := (fun v => 0)
  rx := (fun v => [])
  rgo := (fun _ => none)


theorem alostart (a0 : Int) (a1 : Int) (a2 : Int) (a3 : Int) (a4 : Int) (a5 : Int) (a6 : Int) (a7 : Int) (a8 : Int) (a9 : Int) (a10 : Int) (a11 : Int) (a12 : Int) (a13 : Int) (a14 : Int) : AF.edgeOk (aloA a0 a1 a2 a3 a4 a5 a6 a7 a8 a9 a10 a11 a12 a13 a14) (ctxOf Try.prog memo0) (aloD0 a0 a1 a2 a3 a4 a5 a6 a7 a8 a9 a10 a11 a12 a13 a14) (AF.run0 (aloA a0 a1 a2 a3 a4 a5 a6 a7 a8 a9 a10 a11 a12 a13 a14) (ctxOf Try.prog (memoS 31 abtP abtF abtW abtH 1 (memoA 25 abrP abrF (memoA 32 abuP abuF (memoA 30 abnP abnF (memoA 29 abhP abhF (memoA 16 abkP abkF (memoB [18]))))))))) := by unfold AF.edgeOk; kernel_rfl

theorem alonode0 (a0 : Int) (a1 : Int) (a2 : Int) (a3 : Int) (a4 : Int) (a5 : Int) (a6 : Int) (a7 : Int) (a8 : Int) (a9 : Int) (a10 : Int) (a11 : Int) (a12 : Int) (a13 : Int) (a14 : Int) (p0 : Bool) (p1 : Bool) (p2 : Int) (p3 : Int) (p4 : Nat) (p5 : Bool) (p6 : Bool) (p7 : Int) (p8 : Int) (p9 : Int) (p10 : Nat) (p11 : Nat → Int) (p12 : Nat → Int) (p13 : Nat → Int) (p14 : Nat → Int) (p15 : Nat → Int) (p16 : Nat → Int) (p17 : Nat → Int) (p18 : Nat → Int) (p19 : Int) (p20 : Int) : AF.edgeOk (aloA a0 a1 a2 a3 a4 a5 a6 a7 a8 a9 a10 a11 a12 a13 a14) (ctxOf Try.prog memo0) (aloD a0 a1 a2 a3 a4 a5 a6 a7 a8 a9 a10 a11 a12 a13 a14 (.n0 p0 p1 p2 p3 p4 p5 p6 p7 p8 p9 p10 p11 p12 p13 p14 p15 p16 p17 p18 p19 p20)) (AF.runN (aloA a0 a1 a2 a3 a4 a5 a6 a7 a8 a9 a10 a11 a12 a13 a14) (ctxOf Try.prog (memoS 31 abtP abtF abtW abtH 1 (memoA 25 abrP abrF (memoA 32 abuP abuF (memoA 30 abnP abnF (memoA 29 abhP abhF (memoA 16 abkP abkF (memoB [18])))))))) (.n0 p0 p1 p2 p3 p4 p5 p6 p7 p8 p9 p10 p11 p12 p13 p14 p15 p16 p17 p18 p19 p20)) := by unfold AF.edgeOk; kernel_rfl

theorem alook (a0 : Int) (a1 : Int) (a2 : Int) (a3 : Int) (a4 : Int) (a5 : Int) (a6 : Int) (a7 : Int) (a8 : Int) (a9 : Int) (a10 : Int) (a11 : Int) (a12 : Int) (a13 : Int) (a14 : Int) : (aloA a0 a1 a2 a3 a4 a5 a6 a7 a8 a9 a10 a11 a12 a13 a14).Ok Try.prog (ctxOf Try.prog (memoS 31 abtP abtF abtW abtH 1 (memoA 25 abrP abrF (memoA 32 abuP abuF (memoA 30 abnP abnF (memoA 29 abhP abhF (memoA 16 abkP abkF (memoB [18])))))))) where
  regs := by kernel_rfl
  h0 := by kernel_rfl
  start := alostart a0 a1 a2 a3 a4 a5 a6 a7 a8 a9 a10 a11 a12 a13 a14
  node := fun a _ => match a with
   | .n0 p0 p1 p2 p3 p4 p5 p6 p7 p8 p9 p10 p11 p12 p13 p14 p15 p16 p17 p18 p19 p20 => alonode0 a0 a1 a2 a3 a4 a5 a6 a7 a8 a9 a10 a11 a12 a13 a14 p0 p1 p2 p3 p4 p5 p6 p7 p8 p9 p10 p11 p12 p13 p14 p15 p16 p17 p18 p19 p20
  pd := fun a => match a with
   | .n0 p0 p1 p2 p3 p4 p5 p6 p7 p8 p9 p10 p11 p12 p13 p14 p15 p16 p17 p18 p19 p20 => ⟨(fa_cons rfl (fa_cons rfl (fa_cons rfl (fa_cons rfl (fa_cons rfl (fa_cons rfl (fa_cons rfl (fa_cons rfl (fa_cons rfl (fa_cons rfl (fa_cons rfl (fa_cons rfl fa_nil)))))))))))), (fa_cons ⟨.inl (Nat.le_of_ble_eq_true rfl), rfl, rfl⟩ (fa_cons ⟨.inl (Nat.le_of_ble_eq_true rfl), rfl, rfl⟩ (fa_cons ⟨.inl (Nat.le_of_ble_eq_true rfl), rfl, rfl⟩ (fa_cons ⟨.inl (Nat.le_of_ble_eq_true rfl), (fun _ => rfl), rfl⟩ (fa_cons ⟨.inl (Nat.le_of_ble_eq_true rfl), rfl, rfl⟩ fa_nil))))), fa_nil, rfl⟩
  le := fun a => match a with
   | .n0 p0 p1 p2 p3 p4 p5 p6 p7 p8 p9 p10 p11 p12 p13 p14 p15 p16 p17 p18 p19 p20 => Nat.le_of_ble_eq_true rfl
  rd := fun v => ⟨⟨fa_nil, fa_nil, fa_nil, rfl⟩, rfl⟩
  wb := rfl


theorem alohR {ρ : Env} (a0 : Int) (a1 : Int) (a2 : Int) (a3 : Int) (a4 : Int) (a5 : Int) (a6 : Int) (a7 : Int) (a8 : Int) (a9 : Int) (a10 : Int) (a11 : Int) (a12 : Int) (a13 : Int) (a14 : Int) (hM : MemoOk Try.prog (ctxOf Try.prog (memoS 31 abtP abtF abtW abtH 1 (memoA 25 abrP abrF (memoA 32 abuP abuF (memoA 30 abnP abnF (memoA 29 abhP abhF (memoA 16 abkP abkF (memoB [18])))))))) ρ) : ∀ X a q n D, FxOk ρ X → X.base = (aloA a0 a1 a2 a3 a4 a5 a6 a7 a8 a9 a10 a11 a12 a13 a14).base → X.nt = (aloA a0 a1 a2 a3 a4 a5 a6 a7 a8 a9 a10 a11 a12 a13 a14).nt → X.W = (aloA a0 a1 a2 a3 a4 a5 a6 a7 a8 a9 a10 a11 a12 a13 a14).W → (aloA a0 a1 a2 a3 a4 a5 a6 a7 a8 a9 a10 a11 a12 a13 a14).rgo a = some q → q n = some D → (aloA a0 a1 a2 a3 a4 a5 a6 a7 a8 a9 a10 a11 a12 a13 a14).RangeOk Try.prog ρ X a D := AF.noRange rfl

theorem aloctr {ρ : Env} (a0 : Int) (a1 : Int) (a2 : Int) (a3 : Int) (a4 : Int) (a5 : Int) (a6 : Int) (a7 : Int) (a8 : Int) (a9 : Int) (a10 : Int) (a11 : Int) (a12 : Int) (a13 : Int) (a14 : Int) {n : Nat} {v : aloR} (hM : MemoOk Try.prog (ctxOf Try.prog (memoS 31 abtP abtF abtW abtH 1 (memoA 25 abrP abrF (memoA 32 abuP abuF (memoA 30 abnP abnF (memoA 29 abhP abhF (memoA 16 abkP abkF (memoB [18])))))))) ρ) (hv : (aloA a0 a1 a2 a3 a4 a5 a6 a7 a8 a9 a10 a11 a12 a13 a14).run n = some v) :
    Ctr Try.prog ρ 6 (aloA a0 a1 a2 a3 a4 a5 a6 a7 a8 a9 a10 a11 a12 a13 a14).args (aloA a0 a1 a2 a3 a4 a5 a6 a7 a8 a9 a10 a11 a12 a13 a14).H0 (aloA a0 a1 a2 a3 a4 a5 a6 a7 a8 a9 a10 a11 a12 a13 a14).base (aloA a0 a1 a2 a3 a4 a5 a6 a7 a8 a9 a10 a11 a12 a13 a14).W ((aloA a0 a1 a2 a3 a4 a5 a6 a7 a8 a9 a10 a11 a12 a13 a14).rc v) (putH (aloA a0 a1 a2 a3 a4 a5 a6 a7 a8 a9 a10 a11 a12 a13 a14).H0 ((aloA a0 a1 a2 a3 a4 a5 a6 a7 a8 a9 a10 a11 a12 a13 a14).rh v ++ (aloA a0 a1 a2 a3 a4 a5 a6 a7 a8 a9 a10 a11 a12 a13 a14).rx v)) ((aloA a0 a1 a2 a3 a4 a5 a6 a7 a8 a9 a10 a11 a12 a13 a14).rn v) :=
  AF.ctr try_ok hM (alook a0 a1 a2 a3 a4 a5 a6 a7 a8 a9 a10 a11 a12 a13 a14) (fn := Try.f6) Try.func6 rfl rfl (Nat.le_of_ble_eq_true rfl) rfl (alohR a0 a1 a2 a3 a4 a5 a6 a7 a8 a9 a10 a11 a12 a13 a14 hM) hv


theorem alomem {ρ : Env} : MemoOk Try.prog (ctxOf Try.prog (memoS 31 abtP abtF abtW abtH 1 (memoA 25 abrP abrF (memoA 32 abuP abuF (memoA 30 abnP abnF (memoA 29 abhP abhF (memoA 16 abkP abkF (memoB [18])))))))) ρ := (memoS_ok (abtknown (memoA_ok (abeknown memo0_ok) memo0_ok)) (memoA_ok (abrknown abrmem) (memoA_ok (abuknown abumem) (memoA_ok (abnknown abnmem) (memoA_ok (abhknown abhmem) (memoA_ok (abkknown memo0_ok) (memoB_ok (fun f hf => by
    simp only [List.mem_cons, List.not_mem_nil, or_false] at hf
    subst hf
    exact CxKn09_known))))))))


abbrev aloP : List AP := [.agg [.int .i64, .int .i64, .int .i64, .int .i64, .int .i64, .int .i64, .int .i64, .int .i64, .int .i64, .int .i64, .int .i64, .int .i64, .int .i64], .agg [.int .i64, .int .i64]]
noncomputable def aloF (v : AV) : AF aloN aloR := aloA (v.i.getD 0 0) (v.i.getD 1 0) (v.i.getD 2 0) (v.i.getD 3 0) (v.i.getD 4 0) (v.i.getD 5 0) (v.i.getD 6 0) (v.i.getD 7 0) (v.i.getD 8 0) (v.i.getD 9 0) (v.i.getD 10 0) (v.i.getD 11 0) (v.i.getD 12 0) (v.i.getD 13 0) (v.i.getD 14 0)
theorem aloknown {ρ : Env} (hM : MemoOk Try.prog (ctxOf Try.prog (memoS 31 abtP abtF abtW abtH 1 (memoA 25 abrP abrF (memoA 32 abuP abuF (memoA 30 abnP abnF (memoA 29 abhP abhF (memoA 16 abkP abkF (memoB [18])))))))) ρ) : KnownA Try.prog ρ 6 aloP aloF where
  fn := ⟨Try.f6, Try.func6, rfl⟩
  args := fun v => rfl
  plain := fun v r => rfl
  ctr := fun v n r h => aloctr (v.i.getD 0 0) (v.i.getD 1 0) (v.i.getD 2 0) (v.i.getD 3 0) (v.i.getD 4 0) (v.i.getD 5 0) (v.i.getD 6 0) (v.i.getD 7 0) (v.i.getD 8 0) (v.i.getD 9 0) (v.i.getD 10 0) (v.i.getD 11 0) (v.i.getD 12 0) (v.i.getD 13 0) (v.i.getD 14 0) hM h

end Go.Proofs.Ytgnmdknbnkljbaa.Cx

/- BoltLooses: its automaton returns true. Made by tools/gen_bcon.py. -/
namespace Go.Proofs.Ytgnmdknbnkljbaa.Cx
set_option linter.unusedVariables false
set_option linter.unusedSimpArgs false
set_option maxRecDepth 100000
set_option maxHeartbeats 4000000
open Go Go.RowKit

/-- What is known in the middle of the law's loop. -/
structure LInv (gl gh : Int) (V : Prop) (nm nM k : Int) (su po : Bool) (lo hi : Int) : Prop where
  s0 : k = 0 → su = true ∧ po = false
  s1 : 1 ≤ k → su = decide (gl > 0)
  p1 : ¬ gh > 0 → po = false
  p2 : 36 ≤ k → gh > 0 → po = true
  v1 : V → 1 ≤ k → lo = nm ∧ nm ≤ hi ∧ hi ≤ nM
  v2 : V → 36 ≤ k → hi = nM
  nv : ¬ V → lo = 0 ∧ hi = 0

structure LAt (gl gh : Int) (V : Prop) (nm nM k g n : Int) : Prop where
  g1 : gl ≤ g
  g2 : g ≤ gh
  m1 : k = 0 → g = gl
  m2 : k = 35 → g = gh
  n1 : V → nm ≤ n ∧ n ≤ nM
  n2 : V → k = 0 → n = nm
  n3 : V → k = 35 → n = nM

theorem LInv.next {gl gh : Int} {V : Prop} {nm nM k g n lo hi lo' hi' : Int} {su po su' po' : Bool} (I : LInv gl gh V nm nM k su po lo hi) (hk : 0 ≤ k ∧ k < 256) (h : LAt gl gh V nm nM k g n) (hs : su' = (su && decide (g > 0))) (hp : po' = (po || decide (g > 0)))
    (hw : (V ∧ k = 0 ∧ lo' = min n n ∧ hi' = max n n) ∨ (V ∧ k ≠ 0 ∧ lo' = min lo n ∧ hi' = max hi n) ∨ (¬ V ∧ lo' = lo ∧ hi' = hi)) : LInv gl gh V nm nM (k + 1) su' po' lo' hi' := by
  obtain ⟨i0, i1, i2, i3, i4, i5, i6⟩ := I
  obtain ⟨h1, h2, h3, h4, h5, h6, h7⟩ := h
  subst hs hp
  refine ⟨fun e => by omega, fun _ => ?_, fun e => ?_, fun e e2 => ?_, fun v e => ?_, fun v e => ?_, fun v => ?_⟩
  · by_cases k0 : k = 0
    · rw [(i0 k0).1, h3 k0]; rfl
    · rw [i1 (by omega)]
      by_cases y : gl > 0
      · rw [decide_eq_true y, decide_eq_true (show g > 0 by omega)]; rfl
      · rw [decide_eq_false y]; rfl
  · rw [i2 e, decide_eq_false (show ¬ g > 0 by omega)]; rfl
  · by_cases k0 : k = 35
    · rw [decide_eq_true (show g > 0 by have := h4 k0; omega)]; simp
    · rw [i3 (by omega) e2]; rfl
  · have a := h5 v
    rcases hw with ⟨_, w1, w2, w3⟩ | ⟨_, w1, w2, w3⟩ | ⟨w0, _⟩
    · have := h6 v w1; omega
    · have := i4 v (by omega); omega
    · exact absurd v w0
  · have a := h5 v
    by_cases k0 : k = 35
    · have b := h7 v k0
      have c := i4 v (by omega)
      rcases hw with ⟨_, w1, w2, w3⟩ | ⟨_, w1, w2, w3⟩ | ⟨w0, _⟩
      · omega
      · omega
      · exact absurd v w0
    · have c := i5 v (by omega)
      rcases hw with ⟨_, w1, w2, w3⟩ | ⟨_, w1, w2, w3⟩ | ⟨w0, _⟩
      · omega
      · omega
      · exact absurd v w0
  · rcases hw with ⟨w0, _⟩ | ⟨w0, _⟩ | ⟨w0, w1, w2⟩
    · exact absurd w0 v
    · exact absurd w0 v
    · have := i6 v; omega

section
variable {a0 a1 a2 a3 a4 a5 a6 a7 a8 a9 a10 a11 a12 a13 a14 : Int}

theorem lat_of (K : KindP a0 a1 a2 a3 a4 a5 a6 a7 a8 a9 a10 a11 a12) {c1 c2 c3 c4 c5 c6 c7 c8 : Nat → Int} (T : TruOk a3 a4 a5 a6 a7 a8 a9 a10 a11 a12 a13 a14 0 0 0 0 256 c1 c2 c3 c4 c5 c6 c7 c8) {k : Int} {j : Nat} (hk : k = (j : Int)) (hj : j < 256) :
    AF.fin (abrA a0 a1 a2 a3 a4 a5 a6 a7 a8 a9 a10 a11 a12 (c1 j) (c2 j)) = true ∧ ((0 ≤ a13 ∧ a13 ≤ a14 ∧ a14 ≤ 100000000) → AF.fin (abuA a0 a1 a2 a3 a4 a5 a6 a7 a8 a9 a10 a11 a12 (c6 j) (c1 j) (c2 j)) = true) ∧ ∃ g, Cm.run .gtr (AF.val (abrA a0 a1 a2 a3 a4 a5 a6 a7 a8 a9 a10 a11 a12 (c1 j) (c2 j))) (Ar.run .mul .i64 2000 a0) = decide (g > 0) ∧ LAt (gripV a0 a1 a2 a3 a5) (gripV a0 a1 a2 a4 a6) (0 ≤ a13 ∧ a13 ≤ a14 ∧ a14 ≤ 100000000) (looV a13 (gripV a0 a1 a2 a3 a5)) (looV a14 (gripV a0 a1 a2 a4 a6)) k g (AF.val (abuA a0 a1 a2 a3 a4 a5 a6 a7 a8 a9 a10 a11 a12 (c6 j) (c1 j) (c2 j))) := by
  have K2 := K
  unfold KindP at K2
  rw [T.c1 j hj, T.c2 j hj, T.c6 j hj]
  have r1 := endB_rng (lo := a3) (hi := a4) (i := j) (b := 0) (by omega)
  have r2 := endB_rng (lo := a5) (hi := a6) (i := j) (b := 1) (by omega)
  obtain ⟨x1, x2⟩ := abr_val a0 a1 a2 a3 a4 a5 a6 a7 a8 a9 a10 a11 a12 (endB a3 a4 j 0) (endB a5 a6 j 1) (by omega) (by omega) (by omega) (by omega) (by omega)
  have m1 : a1 * a3 ≤ a1 * endB a3 a4 j 0 := Int.mul_le_mul_of_nonneg_left r1.1 (by omega)
  have m2 : a2 * a5 ≤ a2 * endB a5 a6 j 1 := Int.mul_le_mul_of_nonneg_left r2.1 (by omega)
  have m3 : a1 * endB a3 a4 j 0 ≤ a1 * a4 := Int.mul_le_mul_of_nonneg_left r1.2 (by omega)
  have m4 : a2 * endB a5 a6 j 1 ≤ a2 * a6 := Int.mul_le_mul_of_nonneg_left r2.2 (by omega)
  have b0 : j = 0 → endB a3 a4 j 0 = a3 ∧ endB a5 a6 j 1 = a5 ∧ endB a13 a14 j 5 = a13 := fun h => by
    subst h
    have b0 : bitB ((0 : Nat) : Int) 0 = false := by decide
    have b1 : bitB ((0 : Nat) : Int) 1 = false := by decide
    have b5 : bitB ((0 : Nat) : Int) 5 = false := by decide
    unfold endB
    rw [b0, b1, b5]
    exact ⟨rfl, rfl, rfl⟩
  have b1 : j = 35 → endB a3 a4 j 0 = a4 ∧ endB a5 a6 j 1 = a6 ∧ endB a13 a14 j 5 = a14 := fun h => by
    subst h
    have b0 : bitB ((35 : Nat) : Int) 0 = true := by decide
    have b1 : bitB ((35 : Nat) : Int) 1 = true := by decide
    have b5 : bitB ((35 : Nat) : Int) 5 = true := by decide
    unfold endB
    rw [b0, b1, b5]
    exact ⟨rfl, rfl, rfl⟩
  have hu : (0 ≤ a13 ∧ a13 ≤ a14 ∧ a14 ≤ 100000000) → AF.fin (abuA a0 a1 a2 a3 a4 a5 a6 a7 a8 a9 a10 a11 a12 (endB a13 a14 j 5) (endB a3 a4 j 0) (endB a5 a6 j 1)) = true ∧ AF.val (abuA a0 a1 a2 a3 a4 a5 a6 a7 a8 a9 a10 a11 a12 (endB a13 a14 j 5) (endB a3 a4 j 0) (endB a5 a6 j 1)) = looV (endB a13 a14 j 5) (gripV a0 a1 a2 (endB a3 a4 j 0) (endB a5 a6 j 1)) := fun v => by
    have r5 := endB_rng (lo := a13) (hi := a14) (i := j) (b := 5) (by omega)
    exact abu_val a0 a1 a2 a3 a4 a5 a6 a7 a8 a9 a10 a11 a12 _ _ _ (by omega) (by omega) (by omega) (by omega) (by omega) (by omega)
  refine ⟨x1, fun v => (hu v).1, gripV a0 a1 a2 (endB a3 a4 j 0) (endB a5 a6 j 1), ?_, ?_⟩
  · rw [x2, arMul (by omega)]
    show decide _ = decide _
    congr 1
    unfold armV gripV
    rw [eq_iff_iff]
    omega
  · refine ⟨by unfold gripV; omega, by unfold gripV; omega, fun h => ?_, fun h => ?_, fun v => ?_, fun v h => ?_, fun v h => ?_⟩
    · obtain ⟨e1, e2, _⟩ := b0 (by omega); rw [e1, e2]
    · obtain ⟨e1, e2, _⟩ := b1 (by omega); rw [e1, e2]
    · rw [(hu v).2]
      have r5 := endB_rng (lo := a13) (hi := a14) (i := j) (b := 5) (by omega)
      exact ⟨looV_mono (by omega) r5.1 (by unfold gripV; omega), looV_mono (by omega) r5.2 (by unfold gripV; omega)⟩
    · obtain ⟨e1, e2, e3⟩ := b0 (by omega); rw [(hu v).2, e1, e2, e3]
    · obtain ⟨e1, e2, e3⟩ := b1 (by omega); rw [(hu v).2, e1, e2, e3]

def aloInv (a0 a1 a2 a3 a4 a5 a6 a7 a8 a9 a10 a11 a12 a13 a14 : Int) : aloN → Prop
  | .n0 p0 p1 p2 p3 p4 p5 p6 p7 p8 p9 p10 p11 p12 p13 p14 p15 p16 p17 p18 p19 p20 => p4 = 256 ∧ p10 = 256 ∧ TruOk a3 a4 a5 a6 a7 a8 a9 a10 a11 a12 a13 a14 0 0 0 0 256 p11 p12 p13 p14 p15 p16 p17 p18 ∧ p0 = decide (gripV a0 a1 a2 a3 a5 > 0) ∧ p1 = decide (gripV a0 a1 a2 a4 a6 > 0) ∧ p2 = 0 ∧ ((0 ≤ a13 ∧ a13 ≤ a14 ∧ a14 ≤ 100000000) → p8 = looV a13 (gripV a0 a1 a2 a3 a5) ∧ p9 = looV a14 (gripV a0 a1 a2 a4 a6) ∧ p3 = 0) ∧ (¬ (0 ≤ a13 ∧ a13 ≤ a14 ∧ a14 ≤ 100000000) → p8 = 0 ∧ p9 = 0 ∧ p3 = 3) ∧ (0 ≤ p7 ∧ p7 ≤ 256) ∧ LInv (gripV a0 a1 a2 a3 a5) (gripV a0 a1 a2 a4 a6) (0 ≤ a13 ∧ a13 ≤ a14 ∧ a14 ≤ 100000000) (looV a13 (gripV a0 a1 a2 a3 a5)) (looV a14 (gripV a0 a1 a2 a4 a6)) p7 p5 p6 p19 p20
def aloMu : aloN → Nat
  | .n0 _ _ _ _ _ _ _ p7 .. => (256 - p7).toNat

theorem alo_run0 : ∃ n v, (aloA a0 a1 a2 a3 a4 a5 a6 a7 a8 a9 a10 a11 a12 a13 a14).run n = some v ∧ v = true := by
  obtain ⟨k1, k2, k3⟩ := abk_val a0 a1 a2 a3 a4 a5 a6 a7 a8 a9 a10 a11 a12
  by_cases hk : KindP a0 a1 a2 a3 a4 a5 a6 a7 a8 a9 a10 a11 a12
  · obtain ⟨h1, h2⟩ := abh_ok a0 a1 a2 a3 a4 a5 a6 a7 a8 a9 a10 a11 a12 hk
    obtain ⟨l1, l2, l3⟩ := abn_ok a0 a1 a2 a3 a4 a5 a6 a7 a8 a9 a10 a11 a12 a13 a14 hk
    obtain ⟨t1, t2, t3⟩ := abt_val a0 a1 a2 a3 a4 a5 a6 a7 a8 a9 a10 a11 a12 0 a13 a14 0 0 0 0
    refine AF.run_sat (Inv := aloInv a0 a1 a2 a3 a4 a5 a6 a7 a8 a9 a10 a11 a12 a13 a14) (E := fun (v : aloR) => v = true) aloMu (fun _ => rfl) (fun a hI => ?_) ?_
    · cases a with
      | n0 p0 p1 p2 p3 p4 p5 p6 p7 p8 p9 p10 p11 p12 p13 p14 p15 p16 p17 p18 p19 p20 =>
        obtain ⟨rfl, rfl, hT, q0, q1, q2, q3, q4, q5, hL⟩ := hI
        refine ⟨fun h => ?_, fun h => ?_⟩
        · have hk7 : p7 < 256 := cmLss.1 h
          obtain ⟨hf, hn, g, hc, hA⟩ := lat_of hk hT (k := p7) (j := 0 + Int.toNat p7) (by omega) (by omega)
          have b1 : decide (0 ≤ p7) = true := decide_eq_true (by omega)
          have b2 : decide (p7 < ((256 : Nat) : Int)) = true := decide_eq_true (by omega)
          have b3 : decide (0 + Int.toNat p7 < 256) = true := decide_eq_true (by omega)
          have M : ∀ {su po : Bool} {lo hi : Int}, aloMu (.n0 p0 p1 p2 p3 256 su po (Ar.run .add .i64 p7 1) p8 p9 256 p11 p12 p13 p14 p15 p16 p17 p18 lo hi) < aloMu (.n0 p0 p1 p2 p3 256 p5 p6 p7 p8 p9 256 p11 p12 p13 p14 p15 p16 p17 p18 p19 p20) := by intros; show (256 - Ar.run .add .i64 p7 1).toNat < (256 - p7).toNat; rw [arAdd (by omega)]; omega
          have L : ∀ {su po : Bool} {lo hi : Int}, su = (p5 && decide (g > 0)) → po = (p6 || decide (g > 0)) → (((0 ≤ a13 ∧ a13 ≤ a14 ∧ a14 ≤ 100000000) ∧ p7 = 0 ∧ lo = min (AF.val (abuA a0 a1 a2 a3 a4 a5 a6 a7 a8 a9 a10 a11 a12 (p16 (0 + Int.toNat p7)) (p11 (0 + Int.toNat p7)) (p12 (0 + Int.toNat p7)))) (AF.val (abuA a0 a1 a2 a3 a4 a5 a6 a7 a8 a9 a10 a11 a12 (p16 (0 + Int.toNat p7)) (p11 (0 + Int.toNat p7)) (p12 (0 + Int.toNat p7)))) ∧ hi = max (AF.val (abuA a0 a1 a2 a3 a4 a5 a6 a7 a8 a9 a10 a11 a12 (p16 (0 + Int.toNat p7)) (p11 (0 + Int.toNat p7)) (p12 (0 + Int.toNat p7)))) (AF.val (abuA a0 a1 a2 a3 a4 a5 a6 a7 a8 a9 a10 a11 a12 (p16 (0 + Int.toNat p7)) (p11 (0 + Int.toNat p7)) (p12 (0 + Int.toNat p7))))) ∨ ((0 ≤ a13 ∧ a13 ≤ a14 ∧ a14 ≤ 100000000) ∧ p7 ≠ 0 ∧ lo = min p19 (AF.val (abuA a0 a1 a2 a3 a4 a5 a6 a7 a8 a9 a10 a11 a12 (p16 (0 + Int.toNat p7)) (p11 (0 + Int.toNat p7)) (p12 (0 + Int.toNat p7)))) ∧ hi = max p20 (AF.val (abuA a0 a1 a2 a3 a4 a5 a6 a7 a8 a9 a10 a11 a12 (p16 (0 + Int.toNat p7)) (p11 (0 + Int.toNat p7)) (p12 (0 + Int.toNat p7))))) ∨ (¬ (0 ≤ a13 ∧ a13 ≤ a14 ∧ a14 ≤ 100000000) ∧ lo = p19 ∧ hi = p20)) → (aloInv a0 a1 a2 a3 a4 a5 a6 a7 a8 a9 a10 a11 a12 a13 a14 (.n0 p0 p1 p2 p3 256 su po (Ar.run .add .i64 p7 1) p8 p9 256 p11 p12 p13 p14 p15 p16 p17 p18 lo hi) ∧ aloMu (.n0 p0 p1 p2 p3 256 su po (Ar.run .add .i64 p7 1) p8 p9 256 p11 p12 p13 p14 p15 p16 p17 p18 lo hi) < aloMu (.n0 p0 p1 p2 p3 256 p5 p6 p7 p8 p9 256 p11 p12 p13 p14 p15 p16 p17 p18 p19 p20)) := fun hs hp hw => ⟨⟨rfl, rfl, hT, q0, q1, q2, q3, q4, by rw [arAdd (by omega)]; omega, by rw [arAdd (by omega)]; exact LInv.next hL ⟨q5.1, hk7⟩ hA hs hp hw⟩, M⟩
          by_cases hv : (0 ≤ a13 ∧ a13 ≤ a14 ∧ a14 ≤ 100000000)
          · have v1 : Cm.run .geq a13 0 = true := cmGeq.2 hv.1
            have v2 : Cm.run .leq a13 a14 = true := cmLeq.2 hv.2.1
            have v3 : Cm.run .leq a14 100000000 = true := cmLeq.2 hv.2.2
            have hn := hn hv
            by_cases y : g > 0
            · have y2 := decide_eq_true y
              rw [y2] at L hc
              cases p5 <;> cases p6 <;> simp only [hc, v1, v2, v3, b1, b2, b3, hf, hn, DD.sat, Bool.false_eq_true, reduceCtorEq, false_imp_iff, true_imp_iff, true_and, and_true, forall_const] <;> exact ⟨fun h => L rfl rfl (.inl ⟨hv, cmEql.1 h, arMn, arMx⟩), fun h => L rfl rfl (.inr (.inl ⟨hv, cmEqlF.1 h, arMn, arMx⟩))⟩
            · have y2 := decide_eq_false y
              rw [y2] at L hc
              cases p5 <;> cases p6 <;> simp only [hc, v1, v2, v3, b1, b2, b3, hf, hn, DD.sat, Bool.false_eq_true, reduceCtorEq, false_imp_iff, true_imp_iff, true_and, and_true, forall_const] <;> exact ⟨fun h => L rfl rfl (.inl ⟨hv, cmEql.1 h, arMn, arMx⟩), fun h => L rfl rfl (.inr (.inl ⟨hv, cmEqlF.1 h, arMn, arMx⟩))⟩
          · by_cases y : g > 0
            · have y2 := decide_eq_true y
              rw [y2] at L hc
              have L2 := fun {su po : Bool} hs hp => L (su := su) (po := po) (lo := p19) (hi := p20) hs hp (.inr (.inr ⟨hv, rfl, rfl⟩))
              cases p5 <;> cases p6 <;> simp only [hc, b1, b2, b3, hf, DD.sat, Bool.false_eq_true, reduceCtorEq, false_imp_iff, true_imp_iff, true_and, and_true, forall_const] <;> exact ⟨fun g1 => ⟨fun g2 => ⟨fun g3 => absurd ⟨cmGeq.1 g1, cmLeq.1 g2, cmLeq.1 g3⟩ hv, fun _ => L2 rfl rfl⟩, fun _ => L2 rfl rfl⟩, fun _ => L2 rfl rfl⟩
            · have y2 := decide_eq_false y
              rw [y2] at L hc
              have L2 := fun {su po : Bool} hs hp => L (su := su) (po := po) (lo := p19) (hi := p20) hs hp (.inr (.inr ⟨hv, rfl, rfl⟩))
              cases p5 <;> cases p6 <;> simp only [hc, b1, b2, b3, hf, DD.sat, Bool.false_eq_true, reduceCtorEq, false_imp_iff, true_imp_iff, true_and, and_true, forall_const] <;> exact ⟨fun g1 => ⟨fun g2 => ⟨fun g3 => absurd ⟨cmGeq.1 g1, cmLeq.1 g2, cmLeq.1 g3⟩ hv, fun _ => L2 rfl rfl⟩, fun _ => L2 rfl rfl⟩, fun _ => L2 rfl rfl⟩
        · have hk7 : 256 ≤ p7 := cmLssF.1 h
          have e1 : p5 = decide (gripV a0 a1 a2 a3 a5 > 0) := hL.s1 (by omega)
          have e2 : p6 = decide (gripV a0 a1 a2 a4 a6 > 0) := by
            by_cases y : gripV a0 a1 a2 a4 a6 > 0
            · rw [hL.p2 (by omega) y, decide_eq_true y]
            · rw [hL.p1 y, decide_eq_false y]
          rw [q0, q1, q2, e1, e2]
          by_cases hv : (0 ≤ a13 ∧ a13 ≤ a14 ∧ a14 ≤ 100000000)
          · obtain ⟨w1, w2, w3⟩ := q3 hv
            have w4 := (hL.v1 hv (by omega)).1
            have w5 := hL.v2 hv (by omega)
            rw [w1, w2, w3, w4, w5]
            have v1 : Cm.run .geq a13 0 = true := cmGeq.2 hv.1
            have v2 : Cm.run .leq a13 a14 = true := cmLeq.2 hv.2.1
            have v3 : Cm.run .leq a14 100000000 = true := cmLeq.2 hv.2.2
            generalize decide (gripV a0 a1 a2 a3 a5 > 0) = z1
            generalize decide (gripV a0 a1 a2 a4 a6 > 0) = z2
            cases z1 <;> cases z2 <;> simp [DD.sat, v1, v2, v3, cmEql, cmEqlF, cmNeq, cmNeqF]
          · obtain ⟨w1, w2, w3⟩ := q4 hv
            rw [w1, w2, w3]
            generalize decide (gripV a0 a1 a2 a3 a5 > 0) = z1
            generalize decide (gripV a0 a1 a2 a4 a6 > 0) = z2
            cases z1 <;> cases z2 <;> simp [DD.sat, cmEql, cmEqlF, cmNeq, cmNeqF, cmGeq, cmLeq, cmGeqF, cmLeqF] <;> omega
    · show DD.sat _ _ (aloD0 a0 a1 a2 a3 a4 a5 a6 a7 a8 a9 a10 a11 a12 a13 a14)
      unfold aloD0
      rw [h1, l1, k1, k2 hk, t1, h2]
      have I : ∀ {x y z : Int}, ((0 ≤ a13 ∧ a13 ≤ a14 ∧ a14 ≤ 100000000) → x = looV a13 (gripV a0 a1 a2 a3 a5) ∧ y = looV a14 (gripV a0 a1 a2 a4 a6) ∧ z = 0) → (¬ (0 ≤ a13 ∧ a13 ≤ a14 ∧ a14 ≤ 100000000) → x = 0 ∧ y = 0 ∧ z = 3) → aloInv a0 a1 a2 a3 a4 a5 a6 a7 a8 a9 a10 a11 a12 a13 a14 (.n0 (decide (gripV a0 a1 a2 a3 a5 > 0)) (decide (gripV a0 a1 a2 a4 a6 > 0)) 0 z (abtw0 (AF.val (abtA a0 a1 a2 a3 a4 a5 a6 a7 a8 a9 a10 a11 a12 0 a13 a14 0 0 0 0))) true false 0 x y (abtw0 (AF.val (abtA a0 a1 a2 a3 a4 a5 a6 a7 a8 a9 a10 a11 a12 0 a13 a14 0 0 0 0))) _ _ _ _ _ _ _ _ 0 0) := fun i1 i2 => ⟨t2, t2, t3, rfl, rfl, rfl, i1, i2, by omega, ⟨fun _ => ⟨rfl, rfl⟩, fun h => by omega, fun _ => rfl, fun h => by omega, fun _ h => by omega, fun _ h => by omega, fun _ => ⟨rfl, rfl⟩⟩⟩
      refine ⟨rfl, ⟨rfl, ⟨rfl, ⟨fun h => (by cases h), fun _ => ⟨rfl, I (fun hv => ?_) (fun hv => ?_)⟩⟩⟩⟩⟩
      · rw [l2 hv]; exact ⟨rfl, rfl, rfl⟩
      · rw [l3 hv]; exact ⟨rfl, rfl, rfl⟩
  · obtain ⟨h1, h2⟩ := abh_bad a0 a1 a2 a3 a4 a5 a6 a7 a8 a9 a10 a11 a12 hk
    obtain ⟨l1, l2⟩ := abn_bad a0 a1 a2 a3 a4 a5 a6 a7 a8 a9 a10 a11 a12 a13 a14 hk
    refine AF.run_sat (Inv := fun _ => False) (E := fun (v : aloR) => v = true) (fun _ => 0) (fun _ => rfl) (fun a hI => hI.elim) ?_
    show DD.sat _ _ (aloD0 a0 a1 a2 a3 a4 a5 a6 a7 a8 a9 a10 a11 a12 a13 a14)
    unfold aloD0
    rw [h1, l1, k1, k3 hk, h2, l2]
    simp [DD.sat, cmEql, cmEqlF]
end
theorem alo_run (a0 a1 a2 a3 a4 a5 a6 a7 a8 a9 a10 a11 a12 a13 a14 : Int) : ∃ n v, (aloA a0 a1 a2 a3 a4 a5 a6 a7 a8 a9 a10 a11 a12 a13 a14).run n = some v ∧ v = true := alo_run0
end Go.Proofs.Ytgnmdknbnkljbaa.Cx

/- ARGUMENTS THAT ARE SLICES: opened as lists; the memory in which they lie as blocks that are read alone; a law's contract as its statement's walk. -/
namespace Go.Proofs.Ytgnmdknbnkljbaa.Cx
set_option linter.unusedSimpArgs false
set_option linter.unusedVariables false
open Go Go.RowKit Go.ChangeShapes Go.WideShapes Go.Deep Go.Proofs.Ytgnmdknbnkljbaa

/-! ## Such slices as blocks -/

section
variable {P : Program} {ρ : Env}

/-- Where a slice's rows lie. -/
noncomputable def locOf (w : World) (v : Value) (z : Nat) : Option Loc :=
  match v with
  | .slice (some a) (_ + 1) _ => match w.heap[a.block]? with
    | some (.cells c _ _) => some ⟨a.block, a.off, c.size, z⟩
    | _ => none
  | _ => none

theorem rows_rel {α : Type} {en : α → List Value} {ec : α → List CV} {d : α} (he : ∀ σ x, VRl ρ σ (ec x) (en x)) (σ : Mp) : ∀ (xs : List α) (n : Nat), n ≤ xs.length → VRl ρ σ (flatR (fun j => ec (xs.getD j d)) n) ((xs.take n).flatMap en)
  | xs, 0, _ => by simpa [flatR] using VRl.nil
  | xs, n + 1, h => by
    have ih := rows_rel (d := d) he σ xs n (by omega)
    rw [flatR, List.take_add_one, List.flatMap_append]
    refine ih.append ?_
    have hn : n < xs.length := by omega
    rw [List.getElem?_eq_getElem hn, List.getD_eq_getElem?_getD, List.getElem?_eq_getElem hn]
    simpa using he σ xs[n]

theorem SlR.rel {α : Type} {en : α → List Value} {ec : α → List CV} {d : α} {z : Nat} {w : World} {v : Value} {xs : List α} {σ : Mp} {b : Nat} (h : SlR en z w v xs) (hz : ∀ x, (en x).length = z) (he : ∀ σ x, VRl ρ σ (ec x) (en x))
    (hk : ∀ j, (ec (xs.getD j d)).length = z ∧ (ec (xs.getD j d)).all CV.flat = true) (hσ : σ b = locOf w v z) :
    VR ρ σ (.sla b z 0 xs.length) v ∧ ArgAt ρ w ⟨.arg xs.length z (fun j => ec (xs.getD j d)) hk, z, true, none⟩ (σ b) := by
  obtain ⟨a, cap, rfl, hcap, _, hx⟩ := h
  have hcl : Blk.cells ⟨.arg xs.length z (fun j => ec (xs.getD j d)) hk, z, true, none⟩ = flatR (fun j => ec (xs.getD j d)) xs.length := rfl
  have hlen := flatR_length (fun j => (hk j).1) xs.length
  rcases hx with rfl | ⟨bl, off, c, t, p, rfl, hh, hsz, hrow⟩
  · refine ⟨.sla0 _ _, rfl, rfl, rfl, fun l hl => ?_⟩
    rw [hσ] at hl
    simp [locOf] at hl
  · cases xs with
    | nil =>
      refine ⟨.sla0 _ _, rfl, rfl, rfl, fun l hl => ?_⟩
      rw [hσ] at hl
      simp [locOf] at hl
    | cons x xs =>
      have hlo : locOf w (.slice (some ⟨bl, off, none⟩) (x :: xs).length cap) z = some ⟨bl, off, c.size, z⟩ := by
        simp [locOf, hh]
      rw [hlo] at hσ
      refine ⟨?_, rfl, rfl, rfl, fun l hl => ?_⟩
      · have := VR.sla (ρ := ρ) (σ := σ) (b := b) (z := z) (o := 0) (n := (x :: xs).length) (c' := cap) hσ hcap
        simpa using this
      · rw [hσ] at hl
        obtain rfl := Option.some.inj hl
        refine ⟨c, t, p, hh, rfl, rfl, by rw [hcl, hlen]; exact hsz, fun τ => ?_⟩
        rw [hcl, hlen, hrow]
        have := rows_rel (ρ := ρ) (d := d) he τ (x :: xs) (x :: xs).length (Nat.le_refl _)
        rwa [List.take_of_length_le (Nat.le_refl _)] at this

/-- A law's contract, as its statement's walk. -/
theorem Ctr.law {f : Nat} {args : List CV} {h0 h1 : Tr Blk} {base n1 : Nat} {e : BE} {w : World} {σ : Mp} {args' : Array Value} (K : Ctr P ρ f args h0 base [] (.bool e) h1 n1) (he : e.den ρ = true) (ha : VRl ρ σ args args'.toList) (hH : HR ρ σ (curOf h0 base) w) (hN : ∀ b, base ≤ b → σ b = none) :
    Calls P f args' w fun e w' => e = .returned (.bool true) ∧ Below w.heap.size w w' := by
  refine ((K.run 0 σ w args' ha hH hN).calls (fun k d h => by cases h)).mono ?_
  rintro e' w' ⟨v, rfl, σ', h1, h2, h3, h4, h5⟩
  cases h2
  refine ⟨by rw [he], h4.os, h4.tape, h4.output, h4.size, fun k hk => h4.block k hk (fun b hb l hl => ?_)⟩
  rcases hb with hb | hb
  · cases hb
  · rw [hN b hb] at hl; cases hl

end
end Go.Proofs.Ytgnmdknbnkljbaa.Cx

/- BoltLooses holds, for all inputs: by its automaton. Made by tools/cxlaw.py. -/
namespace Go.Proofs.Ytgnmdknbnkljbaa
set_option linter.unusedVariables false
set_option linter.unusedSimpArgs false
open Go.ChangeShapes Go.WideShapes Go.ChangeAt Go.RowKit
open Cx (Env IE BE DT KnownB)

set_option maxRecDepth 100000 in
theorem blloo_open0 {H : Type} {enc : TypeId × Value → H} {w : World} {base : Nat} {spare : Nat → Bool} {held : Bool} {r : Reach} {b0 : Nat} {vv : Value} {d : DataW H} {p : List MemPlace} (hval : Value.okWide Try.prog w r b0 25 vv) (h : DataW.Trod enc Try.prog w base spare held 25 vv d p) :
    ∃ (x0 : Int) (x1 : Int) (x2 : Int) (x3 : Int) (x4 : Int) (x5 : Int) (x6 : Int) (x7 : Int) (x8 : Int) (x9 : Int) (x10 : Int) (x11 : Int) (x12 : Int), vv = .agg #[.int .i64 x0, .int .i64 x1, .int .i64 x2, .int .i64 x3, .int .i64 x4, .int .i64 x5, .int .i64 x6, .int .i64 x7, .int .i64 x8, .int .i64 x9, .int .i64 x10, .int .i64 x11, .int .i64 x12] ∧ (Lit.int .i64 x0).wf = true ∧ (Lit.int .i64 x1).wf = true ∧ (Lit.int .i64 x2).wf = true ∧ (Lit.int .i64 x3).wf = true ∧ (Lit.int .i64 x4).wf = true ∧ (Lit.int .i64 x5).wf = true ∧ (Lit.int .i64 x6).wf = true ∧ (Lit.int .i64 x7).wf = true ∧ (Lit.int .i64 x8).wf = true ∧ (Lit.int .i64 x9).wf = true ∧ (Lit.int .i64 x10).wf = true ∧ (Lit.int .i64 x11).wf = true ∧ (Lit.int .i64 x12).wf = true := by
  obtain ⟨cs, rfl, hsz⟩ := okWide_struct Try.underlying25 hval
  obtain ⟨l⟩ := cs
  obtain ⟨fuel, hf⟩ := h
  have hl : l.length = 13 := hsz.trans (by kernel_rfl)
  obtain ⟨nA3, yA3, tA3⟩ := trodS Try.underlying25 hf 3 _ rfl (o := 3) (c := 2) (ty := 23) rfl rfl (by kernel_rfl)
  obtain ⟨nA4, yA4, tA4⟩ := trodS Try.underlying25 hf 4 _ rfl (o := 5) (c := 2) (ty := 23) rfl rfl (by kernel_rfl)
  obtain ⟨nA5, yA5, tA5⟩ := trodS Try.underlying25 hf 5 _ rfl (o := 7) (c := 2) (ty := 23) rfl rfl (by kernel_rfl)
  obtain ⟨nA6, yA6, tA6⟩ := trodS Try.underlying25 hf 6 _ rfl (o := 9) (c := 2) (ty := 23) rfl rfl (by kernel_rfl)
  obtain ⟨nA7, yA7, tA7⟩ := trodS Try.underlying25 hf 7 _ rfl (o := 11) (c := 2) (ty := 23) rfl rfl (by kernel_rfl)
  obtain ⟨n0, y0, t0⟩ := trodS Try.underlying25 hf 0 _ rfl (o := 0) (c := 1) (ty := 3) rfl rfl (by kernel_rfl)
  obtain ⟨x0, g0, w0⟩ := leafI Try.underlying3 t0
  obtain ⟨n1, y1, t1⟩ := trodS Try.underlying25 hf 1 _ rfl (o := 1) (c := 1) (ty := 3) rfl rfl (by kernel_rfl)
  obtain ⟨x1, g1, w1⟩ := leafI Try.underlying3 t1
  obtain ⟨n2, y2, t2⟩ := trodS Try.underlying25 hf 2 _ rfl (o := 2) (c := 1) (ty := 3) rfl rfl (by kernel_rfl)
  obtain ⟨x2, g2, w2⟩ := leafI Try.underlying3 t2
  obtain ⟨n3, y3, t3⟩ := trodS Try.underlying23 tA3 0 _ rfl (o := 0) (c := 1) (ty := 3) rfl rfl (by kernel_rfl)
  rw [sub_of (s := 3) rfl (by decide)] at t3
  obtain ⟨x3, g3, w3⟩ := leafI Try.underlying3 t3
  obtain ⟨n4, y4, t4⟩ := trodS Try.underlying23 tA3 1 _ rfl (o := 1) (c := 1) (ty := 3) rfl rfl (by kernel_rfl)
  rw [sub_of (s := 4) rfl (by decide)] at t4
  obtain ⟨x4, g4, w4⟩ := leafI Try.underlying3 t4
  obtain ⟨n5, y5, t5⟩ := trodS Try.underlying23 tA4 0 _ rfl (o := 0) (c := 1) (ty := 3) rfl rfl (by kernel_rfl)
  rw [sub_of (s := 5) rfl (by decide)] at t5
  obtain ⟨x5, g5, w5⟩ := leafI Try.underlying3 t5
  obtain ⟨n6, y6, t6⟩ := trodS Try.underlying23 tA4 1 _ rfl (o := 1) (c := 1) (ty := 3) rfl rfl (by kernel_rfl)
  rw [sub_of (s := 6) rfl (by decide)] at t6
  obtain ⟨x6, g6, w6⟩ := leafI Try.underlying3 t6
  obtain ⟨n7, y7, t7⟩ := trodS Try.underlying23 tA5 0 _ rfl (o := 0) (c := 1) (ty := 3) rfl rfl (by kernel_rfl)
  rw [sub_of (s := 7) rfl (by decide)] at t7
  obtain ⟨x7, g7, w7⟩ := leafI Try.underlying3 t7
  obtain ⟨n8, y8, t8⟩ := trodS Try.underlying23 tA5 1 _ rfl (o := 1) (c := 1) (ty := 3) rfl rfl (by kernel_rfl)
  rw [sub_of (s := 8) rfl (by decide)] at t8
  obtain ⟨x8, g8, w8⟩ := leafI Try.underlying3 t8
  obtain ⟨n9, y9, t9⟩ := trodS Try.underlying23 tA6 0 _ rfl (o := 0) (c := 1) (ty := 3) rfl rfl (by kernel_rfl)
  rw [sub_of (s := 9) rfl (by decide)] at t9
  obtain ⟨x9, g9, w9⟩ := leafI Try.underlying3 t9
  obtain ⟨n10, y10, t10⟩ := trodS Try.underlying23 tA6 1 _ rfl (o := 1) (c := 1) (ty := 3) rfl rfl (by kernel_rfl)
  rw [sub_of (s := 10) rfl (by decide)] at t10
  obtain ⟨x10, g10, w10⟩ := leafI Try.underlying3 t10
  obtain ⟨n11, y11, t11⟩ := trodS Try.underlying23 tA7 0 _ rfl (o := 0) (c := 1) (ty := 3) rfl rfl (by kernel_rfl)
  rw [sub_of (s := 11) rfl (by decide)] at t11
  obtain ⟨x11, g11, w11⟩ := leafI Try.underlying3 t11
  obtain ⟨n12, y12, t12⟩ := trodS Try.underlying23 tA7 1 _ rfl (o := 1) (c := 1) (ty := 3) rfl rfl (by kernel_rfl)
  rw [sub_of (s := 12) rfl (by decide)] at t12
  obtain ⟨x12, g12, w12⟩ := leafI Try.underlying3 t12
  refine ⟨x0, x1, x2, x3, x4, x5, x6, x7, x8, x9, x10, x11, x12, ?_, w0, w1, w2, w3, w4, w5, w6, w7, w8, w9, w10, w11, w12⟩
  clear hval hsz hf t0 t1 t2 t3 t4 t5 t6 t7 t8 t9 t10 t11 t12
  match l, hl with
  | [k0, k1, k2, k3, k4, k5, k6, k7, k8, k9, k10, k11, k12], _ =>
    simp [Value.cells] at g0 g1 g2 g3 g4 g5 g6 g7 g8 g9 g10 g11 g12
    subst g0 g1 g2 g3 g4 g5 g6 g7 g8 g9 g10 g11 g12
    rfl

set_option maxRecDepth 100000 in
theorem blloo_open1 {H : Type} {enc : TypeId × Value → H} {w : World} {base : Nat} {spare : Nat → Bool} {held : Bool} {r : Reach} {b0 : Nat} {vv : Value} {d : DataW H} {p : List MemPlace} (hval : Value.okWide Try.prog w r b0 23 vv) (h : DataW.Trod enc Try.prog w base spare held 23 vv d p) :
    ∃ (x0 : Int) (x1 : Int), vv = .agg #[.int .i64 x0, .int .i64 x1] ∧ (Lit.int .i64 x0).wf = true ∧ (Lit.int .i64 x1).wf = true := by
  obtain ⟨cs, rfl, hsz⟩ := okWide_struct Try.underlying23 hval
  obtain ⟨l⟩ := cs
  obtain ⟨fuel, hf⟩ := h
  have hl : l.length = 2 := hsz.trans (by kernel_rfl)
  obtain ⟨n0, y0, t0⟩ := trodS Try.underlying23 hf 0 _ rfl (o := 0) (c := 1) (ty := 3) rfl rfl (by kernel_rfl)
  obtain ⟨x0, g0, w0⟩ := leafI Try.underlying3 t0
  obtain ⟨n1, y1, t1⟩ := trodS Try.underlying23 hf 1 _ rfl (o := 1) (c := 1) (ty := 3) rfl rfl (by kernel_rfl)
  obtain ⟨x1, g1, w1⟩ := leafI Try.underlying3 t1
  refine ⟨x0, x1, ?_, w0, w1⟩
  clear hval hsz hf t0 t1
  match l, hl with
  | [k0, k1], _ =>
    simp [Value.cells] at g0 g1
    subst g0 g1
    rfl

theorem blloo_walk (x0 : Int) (x1 : Int) (x2 : Int) (x3 : Int) (x4 : Int) (x5 : Int) (x6 : Int) (x7 : Int) (x8 : Int) (x9 : Int) (x10 : Int) (x11 : Int) (x12 : Int) (x13 : Int) (x14 : Int) (w : World) (wx0 : (Lit.int .i64 x0).wf = true) (wx1 : (Lit.int .i64 x1).wf = true) (wx2 : (Lit.int .i64 x2).wf = true) (wx3 : (Lit.int .i64 x3).wf = true) (wx4 : (Lit.int .i64 x4).wf = true) (wx5 : (Lit.int .i64 x5).wf = true) (wx6 : (Lit.int .i64 x6).wf = true) (wx7 : (Lit.int .i64 x7).wf = true) (wx8 : (Lit.int .i64 x8).wf = true) (wx9 : (Lit.int .i64 x9).wf = true) (wx10 : (Lit.int .i64 x10).wf = true) (wx11 : (Lit.int .i64 x11).wf = true) (wx12 : (Lit.int .i64 x12).wf = true) (wx13 : (Lit.int .i64 x13).wf = true) (wx14 : (Lit.int .i64 x14).wf = true) :
    Calls Try.prog 6 #[.agg #[.int .i64 x0, .int .i64 x1, .int .i64 x2, .int .i64 x3, .int .i64 x4, .int .i64 x5, .int .i64 x6, .int .i64 x7, .int .i64 x8, .int .i64 x9, .int .i64 x10, .int .i64 x11, .int .i64 x12], .agg #[.int .i64 x13, .int .i64 x14]] w fun e w' => e = .returned (.bool true) ∧ Below w.heap.size w w' := by
  obtain ⟨n, v, hv, hp⟩ := Cx.alo_run x0 x1 x2 x3 x4 x5 x6 x7 x8 x9 x10 x11 x12 x13 x14
  exact Cx.Ctr.law (ρ := ⟨fun _ => 0, fun _ => false⟩) (σ := fun _ => none) (e := .x v) (Cx.aloctr x0 x1 x2 x3 x4 x5 x6 x7 x8 x9 x10 x11 x12 x13 x14 Cx.alomem hv) hp (.cons (.agg (.cons (.int .i64 (.x x0)) (.cons (.int .i64 (.x x1)) (.cons (.int .i64 (.x x2)) (.cons (.int .i64 (.x x3)) (.cons (.int .i64 (.x x4)) (.cons (.int .i64 (.x x5)) (.cons (.int .i64 (.x x6)) (.cons (.int .i64 (.x x7)) (.cons (.int .i64 (.x x8)) (.cons (.int .i64 (.x x9)) (.cons (.int .i64 (.x x10)) (.cons (.int .i64 (.x x11)) (.cons (.int .i64 (.x x12)) .nil)))))))))))))) (.cons (.agg (.cons (.int .i64 (.x x13)) (.cons (.int .i64 (.x x14)) .nil))) .nil)) ⟨fun _ _ _ _ _ h => (by cases h), fun _ _ _ _ _ _ _ _ h => (by cases h), fun _ _ _ _ _ _ h => (by cases h), fun _ _ _ _ _ _ _ _ _ _ h => (by cases h)⟩ (fun _ _ => rfl)

theorem blloo_own : ownKnob Try.prog.godebug = none := by kernel_rfl
theorem blloo_laidOut : laidOutB Try.prog = true := by kernel_rfl

set_option maxRecDepth 100000 in
theorem blloo_lifted (os : Os) (started : os.Started) (H : Type) (enc : TypeId × Value → H) :
    ReturnsInHanded {} Try.checked os 6 .any (Rows.boltLoosesSpec.pre6 enc Try.prog Try.f6 Rows.boltLoosesRow.domain false) (Rows.boltLoosesSpec.post enc Try.prog Try.f6 false true false false) := by
  refine returnsInHanded_of_change (C := Try.checked) blloo_own started (by kernel_rfl) Try.func6
    (ChangeSpec.witness6 (enc := enc) (C := Try.checked) false ⟨#[], #[.agg #[.int .i64 0, .int .i64 0, .int .i64 0, .int .i64 0, .int .i64 0, .int .i64 0, .int .i64 0, .int .i64 0, .int .i64 0, .int .i64 0, .int .i64 0, .int .i64 0, .int .i64 0], .agg #[.int .i64 0, .int .i64 0]], []⟩ 8 (by kernel_rfl) (by kernel_rfl) (by kernel_rfl) (by kernel_rfl)) ?_
  intro W base args ds gs before hval0 hW hcnd _
  have hval : ∀ (j : Nat) t v, Try.f6.params[j]? = some t → args[j]? = some v → Value.okWide Try.prog W .any base t v := hval0
  have hW' := hW
  obtain ⟨p, q, hA0, hV, rfl, hfz, hnd⟩ := hW
  have hA : DataW.TrodAll enc Try.prog W 0 (fun _ => true) true Try.f6.params.toList args.toList ds p := hA0
  rw [Try.params6] at hA hval
  obtain ⟨v0, vs0, d0, ds0, p0, q0, hargs, rfl, rfl, h0, r0⟩ := trodAll_cons hA
  obtain ⟨v1, vs1, d1, ds1, p1, q1, rfl, rfl, rfl, h1, r1⟩ := trodAll_cons r0
  obtain ⟨rfl, rfl, rfl⟩ := trodAll_nil r1
  obtain rfl : args = #[v0, v1] := by cases args; simp_all
  obtain ⟨rfl, rfl⟩ := trodVars_none hV
  have k0 := h0
  have lt0 : ∀ x ∈ p0, x.block < W.heap.size := by obtain ⟨m, hm⟩ := k0; exact DataW.trod_lt m _ _ _ hm
  have k1 := h1
  have lt1 : ∀ x ∈ p1, x.block < W.heap.size := by obtain ⟨m, hm⟩ := k1; exact DataW.trod_lt m _ _ _ hm
  obtain ⟨x0, x1, x2, x3, x4, x5, x6, x7, x8, x9, x10, x11, x12, rfl, wx0, wx1, wx2, wx3, wx4, wx5, wx6, wx7, wx8, wx9, wx10, wx11, wx12⟩ := blloo_open0 (hval 0 25 v0 rfl rfl) h0
  obtain ⟨x13, x14, rfl, wx13, wx14⟩ := blloo_open1 (hval 1 23 v1 rfl rfl) h1
  clear hA0 hval0
  refine (blloo_walk x0 x1 x2 x3 x4 x5 x6 x7 x8 x9 x10 x11 x12 x13 x14 W wx0 wx1 wx2 wx3 wx4 wx5 wx6 wx7 wx8 wx9 wx10 wx11 wx12 wx13 wx14).mono fun e W' ⟨he, bel⟩ => ?_
  subst he
  exact ⟨_, rfl, _, _, _, [], _, [], hW', trodAll_mk1 (shut_bool Try.underlying4 _), (trodAll_cons_mk (Below.trod blloo_laidOut (by kernel_rfl) (of_decide_eq_true (by kernel_rfl)) k0 bel lt0) (trodAll_cons_mk (Below.trod blloo_laidOut (by kernel_rfl) (of_decide_eq_true (by kernel_rfl)) k1 bel lt1) trodAll_mk0)), rfl, bel.frame _, fun h => by cases h⟩

theorem blloo_over : Rows.boltLoosesRow.holds Try.pinned (OpenSpec.ofChange Rows.boltLoosesSpec) :=
  OpenClaim.holds_of_wide 6 Try.f6 rfl rfl rfl rfl rfl rfl rfl ⟨rfl, rfl, rfl, rfl, rfl⟩ rfl rfl rfl rfl rfl (by kernel_rfl) Try.func6 (by kernel_rfl)
    (of_decide_eq_true (by kernel_rfl)) (by unfold Func.isWrapper; rw [if_neg (of_decide_eq_false (by kernel_rfl))]; exact ⟨rfl, rfl⟩)
    (fun os started H enc _ => blloo_lifted os started H enc)

theorem blloo_proved : Rows.BoltLoosesSaid := blloo_over
#print axioms blloo_proved

end Go.Proofs.Ytgnmdknbnkljbaa
