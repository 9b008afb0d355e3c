/- acme/acmeref07.Wear as an automaton. Made by tools/cxauto.py. -/
import Derived.Test.YthagjhadjpangaaPkDTargets6

namespace Go.Proofs.Ythagjhadjpangaa.Cx
set_option linter.unusedVariables false
set_option linter.unusedSimpArgs false
set_option maxRecDepth 100000
open Go Go.Proofs Go.RowKit

noncomputable abbrev rdwCode : Code := funcCode Try.f23


inductive rdwN where
  | n0
  | n1 (p0 : Int) (p1 : Int) (p2 : Int) (p3 : Int) (p4 : Int) (p5 : Int) (p6 : Int)

abbrev rdwR := Int × Int

noncomputable def rdwD0 (a0 : Bool) (a1 : Int) (a2 : Int) (a3 : Int) (a4 : Int) (a5 : Nat) (a6 : Nat → Int) (a7 : Nat → Int) (a8 : Nat) (a9 : Nat → Int) (a10 : Nat → Int) (a11 : Nat → Int) (a12 : Nat → Int) (a13 : Int) (a14 : Int) : DD (Lf rdwN rdwR) :=
 .leaf (.next (.n0) [2, 3, 4])

noncomputable def rdwD (a0 : Bool) (a1 : Int) (a2 : Int) (a3 : Int) (a4 : Int) (a5 : Nat) (a6 : Nat → Int) (a7 : Nat → Int) (a8 : Nat) (a9 : Nat → Int) (a10 : Nat → Int) (a11 : Nat → Int) (a12 : Nat → Int) (a13 : Int) (a14 : Int) : rdwN → DD (Lf rdwN rdwR)
 | .n0 =>
 .ask (Cm.run Cm.lss a13 a14)
   (.must (decide (0 + a8 ≤ a8))
   (.must (ShapeOk [some IntKind.i64, some IntKind.i64, some IntKind.i64, some IntKind.i64] (tabOf a8 fun i => [CV.int IntKind.i64 (IE.x (a9 (0 + i))), CV.int IntKind.i64 (IE.x (a10 (0 + i))), CV.int IntKind.i64 (IE.x (a11 (0 + i))), CV.int IntKind.i64 (IE.x (a12 (0 + i)))]) fun i => [CV.int IntKind.i64 (IE.x (a9 (0 + i))), CV.int IntKind.i64 (IE.x (a10 (0 + i))), CV.int IntKind.i64 (IE.x (a11 (0 + i))), CV.int IntKind.i64 (IE.x (a12 (0 + i)))])
   (.must (AF.fin (rdoA a8 (fun i => a9 (0 + i)) (fun i => a10 (0 + i)) (fun i => a11 (0 + i)) (fun i => a12 (0 + i)) a13))
   (.must (decide (0 ≤ Prod.fst (Prod.snd (AF.val (rdoA a8 (fun i => a9 (0 + i)) (fun i => a10 (0 + i)) (fun i => a11 (0 + i)) (fun i => a12 (0 + i)) a13)))))
   (.must (decide (Prod.fst (Prod.snd (AF.val (rdoA a8 (fun i => a9 (0 + i)) (fun i => a10 (0 + i)) (fun i => a11 (0 + i)) (fun i => a12 (0 + i)) a13))) < (↑a5 : Int)))
   (.must (decide (0 + Int.toNat (Prod.fst (Prod.snd (AF.val (rdoA a8 (fun i => a9 (0 + i)) (fun i => a10 (0 + i)) (fun i => a11 (0 + i)) (fun i => a12 (0 + i)) a13)))) < a5))
   (.leaf (.next (.n1 (Ar.run Ar.add IntKind.i64 a13 1) (Prod.fst (AF.val (rdoA a8 (fun i => a9 (0 + i)) (fun i => a10 (0 + i)) (fun i => a11 (0 + i)) (fun i => a12 (0 + i)) a13))) (Prod.fst (Prod.snd (AF.val (rdoA a8 (fun i => a9 (0 + i)) (fun i => a10 (0 + i)) (fun i => a11 (0 + i)) (fun i => a12 (0 + i)) a13)))) (Prod.fst (Prod.snd (Prod.snd (AF.val (rdoA a8 (fun i => a9 (0 + i)) (fun i => a10 (0 + i)) (fun i => a11 (0 + i)) (fun i => a12 (0 + i)) a13))))) (Prod.snd (Prod.snd (Prod.snd (AF.val (rdoA a8 (fun i => a9 (0 + i)) (fun i => a10 (0 + i)) (fun i => a11 (0 + i)) (fun i => a12 (0 + i)) a13))))) (Ar.run Ar.add IntKind.i64 0 (a6 (0 + Int.toNat (Prod.fst (Prod.snd (AF.val (rdoF (AG.v { v := { i := AW.i (AG.v { v := { i := AW.i (AG.v { v := { i := [], b := [], t := [] }, sh := [], R := [] }), b := AW.b (AG.v { v := { i := [], b := [], t := [] }, sh := [], R := [] }), t := AW.t (AG.v { v := { i := [], b := [], t := [] }, sh := [], R := [] }) ++ [tabOf a8 fun i => (fun i => [CV.int IntKind.i64 (IE.x (a9 i)), CV.int IntKind.i64 (IE.x (a10 i)), CV.int IntKind.i64 (IE.x (a11 i)), CV.int IntKind.i64 (IE.x (a12 i))]) (0 + i)] }, sh := AG.sh { v := { i := [], b := [], t := [] }, sh := [], R := [] } ++ [decide (0 + a8 ≤ a8), ShapeOk [some IntKind.i64, some IntKind.i64, some IntKind.i64, some IntKind.i64] (tabOf a8 fun i => (fun i => [CV.int IntKind.i64 (IE.x (a9 i)), CV.int IntKind.i64 (IE.x (a10 i)), CV.int IntKind.i64 (IE.x (a11 i)), CV.int IntKind.i64 (IE.x (a12 i))]) (0 + i)) fun i => (fun i => [CV.int IntKind.i64 (IE.x (a9 i)), CV.int IntKind.i64 (IE.x (a10 i)), CV.int IntKind.i64 (IE.x (a11 i)), CV.int IntKind.i64 (IE.x (a12 i))]) (0 + i)], R := AG.R { v := { i := [], b := [], t := [] }, sh := [], R := [] } ++ [1] }) ++ [a13], b := AW.b (AG.v { v := { i := AW.i (AG.v { v := { i := [], b := [], t := [] }, sh := [], R := [] }), b := AW.b (AG.v { v := { i := [], b := [], t := [] }, sh := [], R := [] }), t := AW.t (AG.v { v := { i := [], b := [], t := [] }, sh := [], R := [] }) ++ [tabOf a8 fun i => (fun i => [CV.int IntKind.i64 (IE.x (a9 i)), CV.int IntKind.i64 (IE.x (a10 i)), CV.int IntKind.i64 (IE.x (a11 i)), CV.int IntKind.i64 (IE.x (a12 i))]) (0 + i)] }, sh := AG.sh { v := { i := [], b := [], t := [] }, sh := [], R := [] } ++ [decide (0 + a8 ≤ a8), ShapeOk [some IntKind.i64, some IntKind.i64, some IntKind.i64, some IntKind.i64] (tabOf a8 fun i => (fun i => [CV.int IntKind.i64 (IE.x (a9 i)), CV.int IntKind.i64 (IE.x (a10 i)), CV.int IntKind.i64 (IE.x (a11 i)), CV.int IntKind.i64 (IE.x (a12 i))]) (0 + i)) fun i => (fun i => [CV.int IntKind.i64 (IE.x (a9 i)), CV.int IntKind.i64 (IE.x (a10 i)), CV.int IntKind.i64 (IE.x (a11 i)), CV.int IntKind.i64 (IE.x (a12 i))]) (0 + i)], R := AG.R { v := { i := [], b := [], t := [] }, sh := [], R := [] } ++ [1] }), t := AW.t (AG.v { v := { i := AW.i (AG.v { v := { i := [], b := [], t := [] }, sh := [], R := [] }), b := AW.b (AG.v { v := { i := [], b := [], t := [] }, sh := [], R := [] }), t := AW.t (AG.v { v := { i := [], b := [], t := [] }, sh := [], R := [] }) ++ [tabOf a8 fun i => (fun i => [CV.int IntKind.i64 (IE.x (a9 i)), CV.int IntKind.i64 (IE.x (a10 i)), CV.int IntKind.i64 (IE.x (a11 i)), CV.int IntKind.i64 (IE.x (a12 i))]) (0 + i)] }, sh := AG.sh { v := { i := [], b := [], t := [] }, sh := [], R := [] } ++ [decide (0 + a8 ≤ a8), ShapeOk [some IntKind.i64, some IntKind.i64, some IntKind.i64, some IntKind.i64] (tabOf a8 fun i => (fun i => [CV.int IntKind.i64 (IE.x (a9 i)), CV.int IntKind.i64 (IE.x (a10 i)), CV.int IntKind.i64 (IE.x (a11 i)), CV.int IntKind.i64 (IE.x (a12 i))]) (0 + i)) fun i => (fun i => [CV.int IntKind.i64 (IE.x (a9 i)), CV.int IntKind.i64 (IE.x (a10 i)), CV.int IntKind.i64 (IE.x (a11 i)), CV.int IntKind.i64 (IE.x (a12 i))]) (0 + i)], R := AG.R { v := { i := [], b := [], t := [] }, sh := [], R := [] } ++ [1] }) }, sh := AG.sh { v := { i := AW.i (AG.v { v := { i := [], b := [], t := [] }, sh := [], R := [] }), b := AW.b (AG.v { v := { i := [], b := [], t := [] }, sh := [], R := [] }), t := AW.t (AG.v { v := { i := [], b := [], t := [] }, sh := [], R := [] }) ++ [tabOf a8 fun i => (fun i => [CV.int IntKind.i64 (IE.x (a9 i)), CV.int IntKind.i64 (IE.x (a10 i)), CV.int IntKind.i64 (IE.x (a11 i)), CV.int IntKind.i64 (IE.x (a12 i))]) (0 + i)] }, sh := AG.sh { v := { i := [], b := [], t := [] }, sh := [], R := [] } ++ [decide (0 + a8 ≤ a8), ShapeOk [some IntKind.i64, some IntKind.i64, some IntKind.i64, some IntKind.i64] (tabOf a8 fun i => (fun i => [CV.int IntKind.i64 (IE.x (a9 i)), CV.int IntKind.i64 (IE.x (a10 i)), CV.int IntKind.i64 (IE.x (a11 i)), CV.int IntKind.i64 (IE.x (a12 i))]) (0 + i)) fun i => (fun i => [CV.int IntKind.i64 (IE.x (a9 i)), CV.int IntKind.i64 (IE.x (a10 i)), CV.int IntKind.i64 (IE.x (a11 i)), CV.int IntKind.i64 (IE.x (a12 i))]) (0 + i)], R := AG.R { v := { i := [], b := [], t := [] }, sh := [], R := [] } ++ [1] }, R := AG.R { v := { i := AW.i (AG.v { v := { i := [], b := [], t := [] }, sh := [], R := [] }), b := AW.b (AG.v { v := { i := [], b := [], t := [] }, sh := [], R := [] }), t := AW.t (AG.v { v := { i := [], b := [], t := [] }, sh := [], R := [] }) ++ [tabOf a8 fun i => (fun i => [CV.int IntKind.i64 (IE.x (a9 i)), CV.int IntKind.i64 (IE.x (a10 i)), CV.int IntKind.i64 (IE.x (a11 i)), CV.int IntKind.i64 (IE.x (a12 i))]) (0 + i)] }, sh := AG.sh { v := { i := [], b := [], t := [] }, sh := [], R := [] } ++ [decide (0 + a8 ≤ a8), ShapeOk [some IntKind.i64, some IntKind.i64, some IntKind.i64, some IntKind.i64] (tabOf a8 fun i => (fun i => [CV.int IntKind.i64 (IE.x (a9 i)), CV.int IntKind.i64 (IE.x (a10 i)), CV.int IntKind.i64 (IE.x (a11 i)), CV.int IntKind.i64 (IE.x (a12 i))]) (0 + i)) fun i => (fun i => [CV.int IntKind.i64 (IE.x (a9 i)), CV.int IntKind.i64 (IE.x (a10 i)), CV.int IntKind.i64 (IE.x (a11 i)), CV.int IntKind.i64 (IE.x (a12 i))]) (0 + i)], R := AG.R { v := { i := [], b := [], t := [] }, sh := [], R := [] } ++ [1] } })))))))) (Ar.run Ar.add IntKind.i64 0 (a7 (0 + Int.toNat (Prod.fst (Prod.snd (AF.val (rdoF (AG.v { v := { i := AW.i (AG.v { v := { i := AW.i (AG.v { v := { i := [], b := [], t := [] }, sh := [], R := [] }), b := AW.b (AG.v { v := { i := [], b := [], t := [] }, sh := [], R := [] }), t := AW.t (AG.v { v := { i := [], b := [], t := [] }, sh := [], R := [] }) ++ [tabOf a8 fun i => (fun i => [CV.int IntKind.i64 (IE.x (a9 i)), CV.int IntKind.i64 (IE.x (a10 i)), CV.int IntKind.i64 (IE.x (a11 i)), CV.int IntKind.i64 (IE.x (a12 i))]) (0 + i)] }, sh := AG.sh { v := { i := [], b := [], t := [] }, sh := [], R := [] } ++ [decide (0 + a8 ≤ a8), ShapeOk [some IntKind.i64, some IntKind.i64, some IntKind.i64, some IntKind.i64] (tabOf a8 fun i => (fun i => [CV.int IntKind.i64 (IE.x (a9 i)), CV.int IntKind.i64 (IE.x (a10 i)), CV.int IntKind.i64 (IE.x (a11 i)), CV.int IntKind.i64 (IE.x (a12 i))]) (0 + i)) fun i => (fun i => [CV.int IntKind.i64 (IE.x (a9 i)), CV.int IntKind.i64 (IE.x (a10 i)), CV.int IntKind.i64 (IE.x (a11 i)), CV.int IntKind.i64 (IE.x (a12 i))]) (0 + i)], R := AG.R { v := { i := [], b := [], t := [] }, sh := [], R := [] } ++ [1] }) ++ [a13], b := AW.b (AG.v { v := { i := AW.i (AG.v { v := { i := [], b := [], t := [] }, sh := [], R := [] }), b := AW.b (AG.v { v := { i := [], b := [], t := [] }, sh := [], R := [] }), t := AW.t (AG.v { v := { i := [], b := [], t := [] }, sh := [], R := [] }) ++ [tabOf a8 fun i => (fun i => [CV.int IntKind.i64 (IE.x (a9 i)), CV.int IntKind.i64 (IE.x (a10 i)), CV.int IntKind.i64 (IE.x (a11 i)), CV.int IntKind.i64 (IE.x (a12 i))]) (0 + i)] }, sh := AG.sh { v := { i := [], b := [], t := [] }, sh := [], R := [] } ++ [decide (0 + a8 ≤ a8), ShapeOk [some IntKind.i64, some IntKind.i64, some IntKind.i64, some IntKind.i64] (tabOf a8 fun i => (fun i => [CV.int IntKind.i64 (IE.x (a9 i)), CV.int IntKind.i64 (IE.x (a10 i)), CV.int IntKind.i64 (IE.x (a11 i)), CV.int IntKind.i64 (IE.x (a12 i))]) (0 + i)) fun i => (fun i => [CV.int IntKind.i64 (IE.x (a9 i)), CV.int IntKind.i64 (IE.x (a10 i)), CV.int IntKind.i64 (IE.x (a11 i)), CV.int IntKind.i64 (IE.x (a12 i))]) (0 + i)], R := AG.R { v := { i := [], b := [], t := [] }, sh := [], R := [] } ++ [1] }), t := AW.t (AG.v { v := { i := AW.i (AG.v { v := { i := [], b := [], t := [] }, sh := [], R := [] }), b := AW.b (AG.v { v := { i := [], b := [], t := [] }, sh := [], R := [] }), t := AW.t (AG.v { v := { i := [], b := [], t := [] }, sh := [], R := [] }) ++ [tabOf a8 fun i => (fun i => [CV.int IntKind.i64 (IE.x (a9 i)), CV.int IntKind.i64 (IE.x (a10 i)), CV.int IntKind.i64 (IE.x (a11 i)), CV.int IntKind.i64 (IE.x (a12 i))]) (0 + i)] }, sh := AG.sh { v := { i := [], b := [], t := [] }, sh := [], R := [] } ++ [decide (0 + a8 ≤ a8), ShapeOk [some IntKind.i64, some IntKind.i64, some IntKind.i64, some IntKind.i64] (tabOf a8 fun i => (fun i => [CV.int IntKind.i64 (IE.x (a9 i)), CV.int IntKind.i64 (IE.x (a10 i)), CV.int IntKind.i64 (IE.x (a11 i)), CV.int IntKind.i64 (IE.x (a12 i))]) (0 + i)) fun i => (fun i => [CV.int IntKind.i64 (IE.x (a9 i)), CV.int IntKind.i64 (IE.x (a10 i)), CV.int IntKind.i64 (IE.x (a11 i)), CV.int IntKind.i64 (IE.x (a12 i))]) (0 + i)], R := AG.R { v := { i := [], b := [], t := [] }, sh := [], R := [] } ++ [1] }) }, sh := AG.sh { v := { i := AW.i (AG.v { v := { i := [], b := [], t := [] }, sh := [], R := [] }), b := AW.b (AG.v { v := { i := [], b := [], t := [] }, sh := [], R := [] }), t := AW.t (AG.v { v := { i := [], b := [], t := [] }, sh := [], R := [] }) ++ [tabOf a8 fun i => (fun i => [CV.int IntKind.i64 (IE.x (a9 i)), CV.int IntKind.i64 (IE.x (a10 i)), CV.int IntKind.i64 (IE.x (a11 i)), CV.int IntKind.i64 (IE.x (a12 i))]) (0 + i)] }, sh := AG.sh { v := { i := [], b := [], t := [] }, sh := [], R := [] } ++ [decide (0 + a8 ≤ a8), ShapeOk [some IntKind.i64, some IntKind.i64, some IntKind.i64, some IntKind.i64] (tabOf a8 fun i => (fun i => [CV.int IntKind.i64 (IE.x (a9 i)), CV.int IntKind.i64 (IE.x (a10 i)), CV.int IntKind.i64 (IE.x (a11 i)), CV.int IntKind.i64 (IE.x (a12 i))]) (0 + i)) fun i => (fun i => [CV.int IntKind.i64 (IE.x (a9 i)), CV.int IntKind.i64 (IE.x (a10 i)), CV.int IntKind.i64 (IE.x (a11 i)), CV.int IntKind.i64 (IE.x (a12 i))]) (0 + i)], R := AG.R { v := { i := [], b := [], t := [] }, sh := [], R := [] } ++ [1] }, R := AG.R { v := { i := AW.i (AG.v { v := { i := [], b := [], t := [] }, sh := [], R := [] }), b := AW.b (AG.v { v := { i := [], b := [], t := [] }, sh := [], R := [] }), t := AW.t (AG.v { v := { i := [], b := [], t := [] }, sh := [], R := [] }) ++ [tabOf a8 fun i => (fun i => [CV.int IntKind.i64 (IE.x (a9 i)), CV.int IntKind.i64 (IE.x (a10 i)), CV.int IntKind.i64 (IE.x (a11 i)), CV.int IntKind.i64 (IE.x (a12 i))]) (0 + i)] }, sh := AG.sh { v := { i := [], b := [], t := [] }, sh := [], R := [] } ++ [decide (0 + a8 ≤ a8), ShapeOk [some IntKind.i64, some IntKind.i64, some IntKind.i64, some IntKind.i64] (tabOf a8 fun i => (fun i => [CV.int IntKind.i64 (IE.x (a9 i)), CV.int IntKind.i64 (IE.x (a10 i)), CV.int IntKind.i64 (IE.x (a11 i)), CV.int IntKind.i64 (IE.x (a12 i))]) (0 + i)) fun i => (fun i => [CV.int IntKind.i64 (IE.x (a9 i)), CV.int IntKind.i64 (IE.x (a10 i)), CV.int IntKind.i64 (IE.x (a11 i)), CV.int IntKind.i64 (IE.x (a12 i))]) (0 + i)], R := AG.R { v := { i := [], b := [], t := [] }, sh := [], R := [] } ++ [1] } }))))))))) [2, 3, 4]))))))))
   (.leaf (.done (0, 0) []))
 | .n1 p0 p1 p2 p3 p4 p5 p6 =>
 .ask (Cm.run Cm.lss p0 a14)
   (.must (decide (0 + a8 ≤ a8))
   (.must (ShapeOk [some IntKind.i64, some IntKind.i64, some IntKind.i64, some IntKind.i64] (tabOf a8 fun i => [CV.int IntKind.i64 (IE.x (a9 (0 + i))), CV.int IntKind.i64 (IE.x (a10 (0 + i))), CV.int IntKind.i64 (IE.x (a11 (0 + i))), CV.int IntKind.i64 (IE.x (a12 (0 + i)))]) fun i => [CV.int IntKind.i64 (IE.x (a9 (0 + i))), CV.int IntKind.i64 (IE.x (a10 (0 + i))), CV.int IntKind.i64 (IE.x (a11 (0 + i))), CV.int IntKind.i64 (IE.x (a12 (0 + i)))])
   (.must (AF.fin (rdoA a8 (fun i => a9 (0 + i)) (fun i => a10 (0 + i)) (fun i => a11 (0 + i)) (fun i => a12 (0 + i)) p0))
   (.must (decide (0 ≤ Prod.fst (Prod.snd (AF.val (rdoA a8 (fun i => a9 (0 + i)) (fun i => a10 (0 + i)) (fun i => a11 (0 + i)) (fun i => a12 (0 + i)) p0)))))
   (.must (decide (Prod.fst (Prod.snd (AF.val (rdoA a8 (fun i => a9 (0 + i)) (fun i => a10 (0 + i)) (fun i => a11 (0 + i)) (fun i => a12 (0 + i)) p0))) < (↑a5 : Int)))
   (.must (decide (0 + Int.toNat (Prod.fst (Prod.snd (AF.val (rdoA a8 (fun i => a9 (0 + i)) (fun i => a10 (0 + i)) (fun i => a11 (0 + i)) (fun i => a12 (0 + i)) p0)))) < a5))
   (.leaf (.next (.n1 (Ar.run Ar.add IntKind.i64 p0 1) (Prod.fst (AF.val (rdoA a8 (fun i => a9 (0 + i)) (fun i => a10 (0 + i)) (fun i => a11 (0 + i)) (fun i => a12 (0 + i)) p0))) (Prod.fst (Prod.snd (AF.val (rdoA a8 (fun i => a9 (0 + i)) (fun i => a10 (0 + i)) (fun i => a11 (0 + i)) (fun i => a12 (0 + i)) p0)))) (Prod.fst (Prod.snd (Prod.snd (AF.val (rdoA a8 (fun i => a9 (0 + i)) (fun i => a10 (0 + i)) (fun i => a11 (0 + i)) (fun i => a12 (0 + i)) p0))))) (Prod.snd (Prod.snd (Prod.snd (AF.val (rdoA a8 (fun i => a9 (0 + i)) (fun i => a10 (0 + i)) (fun i => a11 (0 + i)) (fun i => a12 (0 + i)) p0))))) (Ar.run Ar.add IntKind.i64 p5 (a6 (0 + Int.toNat (Prod.fst (Prod.snd (AF.val (rdoF (AG.v { v := { i := AW.i (AG.v { v := { i := AW.i (AG.v { v := { i := [], b := [], t := [] }, sh := [], R := [] }), b := AW.b (AG.v { v := { i := [], b := [], t := [] }, sh := [], R := [] }), t := AW.t (AG.v { v := { i := [], b := [], t := [] }, sh := [], R := [] }) ++ [tabOf a8 fun i => (fun i => [CV.int IntKind.i64 (IE.x (a9 i)), CV.int IntKind.i64 (IE.x (a10 i)), CV.int IntKind.i64 (IE.x (a11 i)), CV.int IntKind.i64 (IE.x (a12 i))]) (0 + i)] }, sh := AG.sh { v := { i := [], b := [], t := [] }, sh := [], R := [] } ++ [decide (0 + a8 ≤ a8), ShapeOk [some IntKind.i64, some IntKind.i64, some IntKind.i64, some IntKind.i64] (tabOf a8 fun i => (fun i => [CV.int IntKind.i64 (IE.x (a9 i)), CV.int IntKind.i64 (IE.x (a10 i)), CV.int IntKind.i64 (IE.x (a11 i)), CV.int IntKind.i64 (IE.x (a12 i))]) (0 + i)) fun i => (fun i => [CV.int IntKind.i64 (IE.x (a9 i)), CV.int IntKind.i64 (IE.x (a10 i)), CV.int IntKind.i64 (IE.x (a11 i)), CV.int IntKind.i64 (IE.x (a12 i))]) (0 + i)], R := AG.R { v := { i := [], b := [], t := [] }, sh := [], R := [] } ++ [1] }) ++ [p0], b := AW.b (AG.v { v := { i := AW.i (AG.v { v := { i := [], b := [], t := [] }, sh := [], R := [] }), b := AW.b (AG.v { v := { i := [], b := [], t := [] }, sh := [], R := [] }), t := AW.t (AG.v { v := { i := [], b := [], t := [] }, sh := [], R := [] }) ++ [tabOf a8 fun i => (fun i => [CV.int IntKind.i64 (IE.x (a9 i)), CV.int IntKind.i64 (IE.x (a10 i)), CV.int IntKind.i64 (IE.x (a11 i)), CV.int IntKind.i64 (IE.x (a12 i))]) (0 + i)] }, sh := AG.sh { v := { i := [], b := [], t := [] }, sh := [], R := [] } ++ [decide (0 + a8 ≤ a8), ShapeOk [some IntKind.i64, some IntKind.i64, some IntKind.i64, some IntKind.i64] (tabOf a8 fun i => (fun i => [CV.int IntKind.i64 (IE.x (a9 i)), CV.int IntKind.i64 (IE.x (a10 i)), CV.int IntKind.i64 (IE.x (a11 i)), CV.int IntKind.i64 (IE.x (a12 i))]) (0 + i)) fun i => (fun i => [CV.int IntKind.i64 (IE.x (a9 i)), CV.int IntKind.i64 (IE.x (a10 i)), CV.int IntKind.i64 (IE.x (a11 i)), CV.int IntKind.i64 (IE.x (a12 i))]) (0 + i)], R := AG.R { v := { i := [], b := [], t := [] }, sh := [], R := [] } ++ [1] }), t := AW.t (AG.v { v := { i := AW.i (AG.v { v := { i := [], b := [], t := [] }, sh := [], R := [] }), b := AW.b (AG.v { v := { i := [], b := [], t := [] }, sh := [], R := [] }), t := AW.t (AG.v { v := { i := [], b := [], t := [] }, sh := [], R := [] }) ++ [tabOf a8 fun i => (fun i => [CV.int IntKind.i64 (IE.x (a9 i)), CV.int IntKind.i64 (IE.x (a10 i)), CV.int IntKind.i64 (IE.x (a11 i)), CV.int IntKind.i64 (IE.x (a12 i))]) (0 + i)] }, sh := AG.sh { v := { i := [], b := [], t := [] }, sh := [], R := [] } ++ [decide (0 + a8 ≤ a8), ShapeOk [some IntKind.i64, some IntKind.i64, some IntKind.i64, some IntKind.i64] (tabOf a8 fun i => (fun i => [CV.int IntKind.i64 (IE.x (a9 i)), CV.int IntKind.i64 (IE.x (a10 i)), CV.int IntKind.i64 (IE.x (a11 i)), CV.int IntKind.i64 (IE.x (a12 i))]) (0 + i)) fun i => (fun i => [CV.int IntKind.i64 (IE.x (a9 i)), CV.int IntKind.i64 (IE.x (a10 i)), CV.int IntKind.i64 (IE.x (a11 i)), CV.int IntKind.i64 (IE.x (a12 i))]) (0 + i)], R := AG.R { v := { i := [], b := [], t := [] }, sh := [], R := [] } ++ [1] }) }, sh := AG.sh { v := { i := AW.i (AG.v { v := { i := [], b := [], t := [] }, sh := [], R := [] }), b := AW.b (AG.v { v := { i := [], b := [], t := [] }, sh := [], R := [] }), t := AW.t (AG.v { v := { i := [], b := [], t := [] }, sh := [], R := [] }) ++ [tabOf a8 fun i => (fun i => [CV.int IntKind.i64 (IE.x (a9 i)), CV.int IntKind.i64 (IE.x (a10 i)), CV.int IntKind.i64 (IE.x (a11 i)), CV.int IntKind.i64 (IE.x (a12 i))]) (0 + i)] }, sh := AG.sh { v := { i := [], b := [], t := [] }, sh := [], R := [] } ++ [decide (0 + a8 ≤ a8), ShapeOk [some IntKind.i64, some IntKind.i64, some IntKind.i64, some IntKind.i64] (tabOf a8 fun i => (fun i => [CV.int IntKind.i64 (IE.x (a9 i)), CV.int IntKind.i64 (IE.x (a10 i)), CV.int IntKind.i64 (IE.x (a11 i)), CV.int IntKind.i64 (IE.x (a12 i))]) (0 + i)) fun i => (fun i => [CV.int IntKind.i64 (IE.x (a9 i)), CV.int IntKind.i64 (IE.x (a10 i)), CV.int IntKind.i64 (IE.x (a11 i)), CV.int IntKind.i64 (IE.x (a12 i))]) (0 + i)], R := AG.R { v := { i := [], b := [], t := [] }, sh := [], R := [] } ++ [1] }, R := AG.R { v := { i := AW.i (AG.v { v := { i := [], b := [], t := [] }, sh := [], R := [] }), b := AW.b (AG.v { v := { i := [], b := [], t := [] }, sh := [], R := [] }), t := AW.t (AG.v { v := { i := [], b := [], t := [] }, sh := [], R := [] }) ++ [tabOf a8 fun i => (fun i => [CV.int IntKind.i64 (IE.x (a9 i)), CV.int IntKind.i64 (IE.x (a10 i)), CV.int IntKind.i64 (IE.x (a11 i)), CV.int IntKind.i64 (IE.x (a12 i))]) (0 + i)] }, sh := AG.sh { v := { i := [], b := [], t := [] }, sh := [], R := [] } ++ [decide (0 + a8 ≤ a8), ShapeOk [some IntKind.i64, some IntKind.i64, some IntKind.i64, some IntKind.i64] (tabOf a8 fun i => (fun i => [CV.int IntKind.i64 (IE.x (a9 i)), CV.int IntKind.i64 (IE.x (a10 i)), CV.int IntKind.i64 (IE.x (a11 i)), CV.int IntKind.i64 (IE.x (a12 i))]) (0 + i)) fun i => (fun i => [CV.int IntKind.i64 (IE.x (a9 i)), CV.int IntKind.i64 (IE.x (a10 i)), CV.int IntKind.i64 (IE.x (a11 i)), CV.int IntKind.i64 (IE.x (a12 i))]) (0 + i)], R := AG.R { v := { i := [], b := [], t := [] }, sh := [], R := [] } ++ [1] } })))))))) (Ar.run Ar.add IntKind.i64 p6 (a7 (0 + Int.toNat (Prod.fst (Prod.snd (AF.val (rdoF (AG.v { v := { i := AW.i (AG.v { v := { i := AW.i (AG.v { v := { i := [], b := [], t := [] }, sh := [], R := [] }), b := AW.b (AG.v { v := { i := [], b := [], t := [] }, sh := [], R := [] }), t := AW.t (AG.v { v := { i := [], b := [], t := [] }, sh := [], R := [] }) ++ [tabOf a8 fun i => (fun i => [CV.int IntKind.i64 (IE.x (a9 i)), CV.int IntKind.i64 (IE.x (a10 i)), CV.int IntKind.i64 (IE.x (a11 i)), CV.int IntKind.i64 (IE.x (a12 i))]) (0 + i)] }, sh := AG.sh { v := { i := [], b := [], t := [] }, sh := [], R := [] } ++ [decide (0 + a8 ≤ a8), ShapeOk [some IntKind.i64, some IntKind.i64, some IntKind.i64, some IntKind.i64] (tabOf a8 fun i => (fun i => [CV.int IntKind.i64 (IE.x (a9 i)), CV.int IntKind.i64 (IE.x (a10 i)), CV.int IntKind.i64 (IE.x (a11 i)), CV.int IntKind.i64 (IE.x (a12 i))]) (0 + i)) fun i => (fun i => [CV.int IntKind.i64 (IE.x (a9 i)), CV.int IntKind.i64 (IE.x (a10 i)), CV.int IntKind.i64 (IE.x (a11 i)), CV.int IntKind.i64 (IE.x (a12 i))]) (0 + i)], R := AG.R { v := { i := [], b := [], t := [] }, sh := [], R := [] } ++ [1] }) ++ [p0], b := AW.b (AG.v { v := { i := AW.i (AG.v { v := { i := [], b := [], t := [] }, sh := [], R := [] }), b := AW.b (AG.v { v := { i := [], b := [], t := [] }, sh := [], R := [] }), t := AW.t (AG.v { v := { i := [], b := [], t := [] }, sh := [], R := [] }) ++ [tabOf a8 fun i => (fun i => [CV.int IntKind.i64 (IE.x (a9 i)), CV.int IntKind.i64 (IE.x (a10 i)), CV.int IntKind.i64 (IE.x (a11 i)), CV.int IntKind.i64 (IE.x (a12 i))]) (0 + i)] }, sh := AG.sh { v := { i := [], b := [], t := [] }, sh := [], R := [] } ++ [decide (0 + a8 ≤ a8), ShapeOk [some IntKind.i64, some IntKind.i64, some IntKind.i64, some IntKind.i64] (tabOf a8 fun i => (fun i => [CV.int IntKind.i64 (IE.x (a9 i)), CV.int IntKind.i64 (IE.x (a10 i)), CV.int IntKind.i64 (IE.x (a11 i)), CV.int IntKind.i64 (IE.x (a12 i))]) (0 + i)) fun i => (fun i => [CV.int IntKind.i64 (IE.x (a9 i)), CV.int IntKind.i64 (IE.x (a10 i)), CV.int IntKind.i64 (IE.x (a11 i)), CV.int IntKind.i64 (IE.x (a12 i))]) (0 + i)], R := AG.R { v := { i := [], b := [], t := [] }, sh := [], R := [] } ++ [1] }), t := AW.t (AG.v { v := { i := AW.i (AG.v { v := { i := [], b := [], t := [] }, sh := [], R := [] }), b := AW.b (AG.v { v := { i := [], b := [], t := [] }, sh := [], R := [] }), t := AW.t (AG.v { v := { i := [], b := [], t := [] }, sh := [], R := [] }) ++ [tabOf a8 fun i => (fun i => [CV.int IntKind.i64 (IE.x (a9 i)), CV.int IntKind.i64 (IE.x (a10 i)), CV.int IntKind.i64 (IE.x (a11 i)), CV.int IntKind.i64 (IE.x (a12 i))]) (0 + i)] }, sh := AG.sh { v := { i := [], b := [], t := [] }, sh := [], R := [] } ++ [decide (0 + a8 ≤ a8), ShapeOk [some IntKind.i64, some IntKind.i64, some IntKind.i64, some IntKind.i64] (tabOf a8 fun i => (fun i => [CV.int IntKind.i64 (IE.x (a9 i)), CV.int IntKind.i64 (IE.x (a10 i)), CV.int IntKind.i64 (IE.x (a11 i)), CV.int IntKind.i64 (IE.x (a12 i))]) (0 + i)) fun i => (fun i => [CV.int IntKind.i64 (IE.x (a9 i)), CV.int IntKind.i64 (IE.x (a10 i)), CV.int IntKind.i64 (IE.x (a11 i)), CV.int IntKind.i64 (IE.x (a12 i))]) (0 + i)], R := AG.R { v := { i := [], b := [], t := [] }, sh := [], R := [] } ++ [1] }) }, sh := AG.sh { v := { i := AW.i (AG.v { v := { i := [], b := [], t := [] }, sh := [], R := [] }), b := AW.b (AG.v { v := { i := [], b := [], t := [] }, sh := [], R := [] }), t := AW.t (AG.v { v := { i := [], b := [], t := [] }, sh := [], R := [] }) ++ [tabOf a8 fun i => (fun i => [CV.int IntKind.i64 (IE.x (a9 i)), CV.int IntKind.i64 (IE.x (a10 i)), CV.int IntKind.i64 (IE.x (a11 i)), CV.int IntKind.i64 (IE.x (a12 i))]) (0 + i)] }, sh := AG.sh { v := { i := [], b := [], t := [] }, sh := [], R := [] } ++ [decide (0 + a8 ≤ a8), ShapeOk [some IntKind.i64, some IntKind.i64, some IntKind.i64, some IntKind.i64] (tabOf a8 fun i => (fun i => [CV.int IntKind.i64 (IE.x (a9 i)), CV.int IntKind.i64 (IE.x (a10 i)), CV.int IntKind.i64 (IE.x (a11 i)), CV.int IntKind.i64 (IE.x (a12 i))]) (0 + i)) fun i => (fun i => [CV.int IntKind.i64 (IE.x (a9 i)), CV.int IntKind.i64 (IE.x (a10 i)), CV.int IntKind.i64 (IE.x (a11 i)), CV.int IntKind.i64 (IE.x (a12 i))]) (0 + i)], R := AG.R { v := { i := [], b := [], t := [] }, sh := [], R := [] } ++ [1] }, R := AG.R { v := { i := AW.i (AG.v { v := { i := [], b := [], t := [] }, sh := [], R := [] }), b := AW.b (AG.v { v := { i := [], b := [], t := [] }, sh := [], R := [] }), t := AW.t (AG.v { v := { i := [], b := [], t := [] }, sh := [], R := [] }) ++ [tabOf a8 fun i => (fun i => [CV.int IntKind.i64 (IE.x (a9 i)), CV.int IntKind.i64 (IE.x (a10 i)), CV.int IntKind.i64 (IE.x (a11 i)), CV.int IntKind.i64 (IE.x (a12 i))]) (0 + i)] }, sh := AG.sh { v := { i := [], b := [], t := [] }, sh := [], R := [] } ++ [decide (0 + a8 ≤ a8), ShapeOk [some IntKind.i64, some IntKind.i64, some IntKind.i64, some IntKind.i64] (tabOf a8 fun i => (fun i => [CV.int IntKind.i64 (IE.x (a9 i)), CV.int IntKind.i64 (IE.x (a10 i)), CV.int IntKind.i64 (IE.x (a11 i)), CV.int IntKind.i64 (IE.x (a12 i))]) (0 + i)) fun i => (fun i => [CV.int IntKind.i64 (IE.x (a9 i)), CV.int IntKind.i64 (IE.x (a10 i)), CV.int IntKind.i64 (IE.x (a11 i)), CV.int IntKind.i64 (IE.x (a12 i))]) (0 + i)], R := AG.R { v := { i := [], b := [], t := [] }, sh := [], R := [] } ++ [1] } }))))))))) [2, 3, 4]))))))))
   (.leaf (.done (p5, p6) []))

noncomputable def rdwA (a0 : Bool) (a1 : Int) (a2 : Int) (a3 : Int) (a4 : Int) (a5 : Nat) (a6 : Nat → Int) (a7 : Nat → Int) (a8 : Nat) (a9 : Nat → Int) (a10 : Nat → Int) (a11 : Nat → Int) (a12 : Nat → Int) (a13 : Int) (a14 : Int) : AF rdwN rdwR where
  code := rdwCode
  base := 2
  nt := 40
  m := 400
  un := []
  W := []
  h0 := [(0, ⟨.arg a5 2 (fun i => [.int .i64 (.x (a6 i)), .int .i64 (.x (a7 i))]) (fun _ => ⟨rfl, rfl⟩), 2, true, none⟩), (1, ⟨.arg a8 4 (fun i => [.int .i64 (.x (a9 i)), .int .i64 (.x (a10 i)), .int .i64 (.x (a11 i)), .int .i64 (.x (a12 i))]) (fun _ => ⟨rfl, rfl⟩), 4, true, none⟩)]
  args := [.agg [.bool (.x a0), .int .i64 (.x a1), .int .i64 (.x a2), .int .i64 (.x a3), .int .i64 (.x a4), .sla 0 2 0 a5], .sla 1 4 0 a8, .int .i64 (.x a13), .int .i64 (.x a14)]
  res := (Try.f23).results.toList
  path := fun a => match a with
   | .n0 => [1, 1, 0, 1, 0]
   | .n1 p0 p1 p2 p3 p4 p5 p6 => [1, 1, 0, 1, 0]
  pd := fun a => match a with
   | .n0 => ⟨[(1, .sla 1 4 0 a8), (3, .int .i64 (.x a14)), (4, .ptr (some (2, 0))), (8, .ptr (some (3, 0))), (9, .ptr (some (4, 0))), (10, .int .i64 (.x a13))], [(2, ⟨.lit [.bool (.x a0), .int .i64 (.x a1), .int .i64 (.x a2), .int .i64 (.x a3), .int .i64 (.x a4), .sla 0 2 0 a5], 0, true, none⟩), (3, ⟨.lit [.int .i64 (.x 0), .int .i64 (.x 0)], 0, true, none⟩), (4, ⟨.lit [.int .i64 (.x 0), .int .i64 (.x 0)], 0, true, none⟩)], 5, []⟩
   | .n1 p0 p1 p2 p3 p4 p5 p6 => ⟨[(1, .sla 1 4 0 a8), (3, .int .i64 (.x a14)), (4, .ptr (some (2, 0))), (8, .ptr (some (3, 0))), (9, .ptr (some (4, 0))), (10, .int .i64 (.x p0)), (23, .agg [.int .i64 (.x p1), .int .i64 (.x p2), .int .i64 (.x p3), .int .i64 (.x p4)])], [(2, ⟨.lit [.bool (.x a0), .int .i64 (.x a1), .int .i64 (.x a2), .int .i64 (.x a3), .int .i64 (.x a4), .sla 0 2 0 a5], 0, true, none⟩), (3, ⟨.lit [.int .i64 (.x 0), .int .i64 (.x 0)], 0, true, none⟩), (4, ⟨.lit [.int .i64 (.x p5), .int .i64 (.x p6)], 0, true, none⟩)], 5, []⟩
  D0 := rdwD0 a0 a1 a2 a3 a4 a5 a6 a7 a8 a9 a10 a11 a12 a13 a14
  D := rdwD a0 a1 a2 a3 a4 a5 a6 a7 a8 a9 a10 a11 a12 a13 a14
  rc := (fun v => .agg [.int .i64 (.x v.1), .int .i64 (.x v.2)])
  rh := (fun v => [])
  rn := (fun v => 2)
  rx := (fun v => [])
  rgo := (fun _ => none)


theorem rdwstart (a0 : Bool) (a1 : Int) (a2 : Int) (a3 : Int) (a4 : Int) (a5 : Nat) (a6 : Nat → Int) (a7 : Nat → Int) (a8 : Nat) (a9 : Nat → Int) (a10 : Nat → Int) (a11 : Nat → Int) (a12 : Nat → Int) (a13 : Int) (a14 : Int) : AF.edgeOk (rdwA a0 a1 a2 a3 a4 a5 a6 a7 a8 a9 a10 a11 a12 a13 a14) (ctxOf Try.prog memo0) (rdwD0 a0 a1 a2 a3 a4 a5 a6 a7 a8 a9 a10 a11 a12 a13 a14) (AF.run0 (rdwA a0 a1 a2 a3 a4 a5 a6 a7 a8 a9 a10 a11 a12 a13 a14) (ctxOf Try.prog (memoS 69 rdoP rdoF rdoW rdoH 1 memo0))) := by unfold AF.edgeOk; kernel_rfl

theorem rdwnode0 (a0 : Bool) (a1 : Int) (a2 : Int) (a3 : Int) (a4 : Int) (a5 : Nat) (a6 : Nat → Int) (a7 : Nat → Int) (a8 : Nat) (a9 : Nat → Int) (a10 : Nat → Int) (a11 : Nat → Int) (a12 : Nat → Int) (a13 : Int) (a14 : Int) : AF.edgeOk (rdwA a0 a1 a2 a3 a4 a5 a6 a7 a8 a9 a10 a11 a12 a13 a14) (ctxOf Try.prog memo0) (rdwD a0 a1 a2 a3 a4 a5 a6 a7 a8 a9 a10 a11 a12 a13 a14 (.n0)) (AF.runN (rdwA a0 a1 a2 a3 a4 a5 a6 a7 a8 a9 a10 a11 a12 a13 a14) (ctxOf Try.prog (memoS 69 rdoP rdoF rdoW rdoH 1 memo0)) (.n0)) := by unfold AF.edgeOk; kernel_rfl

theorem rdwnode1 (a0 : Bool) (a1 : Int) (a2 : Int) (a3 : Int) (a4 : Int) (a5 : Nat) (a6 : Nat → Int) (a7 : Nat → Int) (a8 : Nat) (a9 : Nat → Int) (a10 : Nat → Int) (a11 : Nat → Int) (a12 : Nat → Int) (a13 : Int) (a14 : Int) (p0 : Int) (p1 : Int) (p2 : Int) (p3 : Int) (p4 : Int) (p5 : Int) (p6 : Int) : AF.edgeOk (rdwA a0 a1 a2 a3 a4 a5 a6 a7 a8 a9 a10 a11 a12 a13 a14) (ctxOf Try.prog memo0) (rdwD a0 a1 a2 a3 a4 a5 a6 a7 a8 a9 a10 a11 a12 a13 a14 (.n1 p0 p1 p2 p3 p4 p5 p6)) (AF.runN (rdwA a0 a1 a2 a3 a4 a5 a6 a7 a8 a9 a10 a11 a12 a13 a14) (ctxOf Try.prog (memoS 69 rdoP rdoF rdoW rdoH 1 memo0)) (.n1 p0 p1 p2 p3 p4 p5 p6)) := by unfold AF.edgeOk; kernel_rfl

theorem rdwok (a0 : Bool) (a1 : Int) (a2 : Int) (a3 : Int) (a4 : Int) (a5 : Nat) (a6 : Nat → Int) (a7 : Nat → Int) (a8 : Nat) (a9 : Nat → Int) (a10 : Nat → Int) (a11 : Nat → Int) (a12 : Nat → Int) (a13 : Int) (a14 : Int) : (rdwA a0 a1 a2 a3 a4 a5 a6 a7 a8 a9 a10 a11 a12 a13 a14).Ok Try.prog (ctxOf Try.prog (memoS 69 rdoP rdoF rdoW rdoH 1 memo0)) where
  regs := by kernel_rfl
  h0 := by kernel_rfl
  start := rdwstart a0 a1 a2 a3 a4 a5 a6 a7 a8 a9 a10 a11 a12 a13 a14
  node := fun a _ => match a with
   | .n0 => rdwnode0 a0 a1 a2 a3 a4 a5 a6 a7 a8 a9 a10 a11 a12 a13 a14
   | .n1 p0 p1 p2 p3 p4 p5 p6 => rdwnode1 a0 a1 a2 a3 a4 a5 a6 a7 a8 a9 a10 a11 a12 a13 a14 p0 p1 p2 p3 p4 p5 p6
  pd := fun a => match a with
   | .n0 => ⟨(fa_cons rfl (fa_cons rfl (fa_cons rfl (fa_cons rfl (fa_cons rfl (fa_cons rfl fa_nil)))))), (fa_cons ⟨.inl (Nat.le_of_ble_eq_true rfl), rfl, rfl⟩ (fa_cons ⟨.inl (Nat.le_of_ble_eq_true rfl), rfl, rfl⟩ (fa_cons ⟨.inl (Nat.le_of_ble_eq_true rfl), rfl, rfl⟩ fa_nil))), fa_nil, rfl⟩
   | .n1 p0 p1 p2 p3 p4 p5 p6 => ⟨(fa_cons rfl (fa_cons rfl (fa_cons rfl (fa_cons rfl (fa_cons rfl (fa_cons rfl (fa_cons rfl fa_nil))))))), (fa_cons ⟨.inl (Nat.le_of_ble_eq_true rfl), rfl, rfl⟩ (fa_cons ⟨.inl (Nat.le_of_ble_eq_true rfl), rfl, rfl⟩ (fa_cons ⟨.inl (Nat.le_of_ble_eq_true rfl), rfl, rfl⟩ fa_nil))), fa_nil, rfl⟩
  le := fun a => match a with
   | .n0 => Nat.le_of_ble_eq_true rfl
   | .n1 p0 p1 p2 p3 p4 p5 p6 => Nat.le_of_ble_eq_true rfl
  rd := fun v => ⟨⟨fa_nil, fa_nil, fa_nil, rfl⟩, rfl⟩
  wb := rfl


theorem rdwhR {ρ : Env} (a0 : Bool) (a1 : Int) (a2 : Int) (a3 : Int) (a4 : Int) (a5 : Nat) (a6 : Nat → Int) (a7 : Nat → Int) (a8 : Nat) (a9 : Nat → Int) (a10 : Nat → Int) (a11 : Nat → Int) (a12 : Nat → Int) (a13 : Int) (a14 : Int) (hM : MemoOk Try.prog (ctxOf Try.prog (memoS 69 rdoP rdoF rdoW rdoH 1 memo0)) ρ) : ∀ X a q n D, FxOk ρ X → X.base = (rdwA a0 a1 a2 a3 a4 a5 a6 a7 a8 a9 a10 a11 a12 a13 a14).base → X.nt = (rdwA a0 a1 a2 a3 a4 a5 a6 a7 a8 a9 a10 a11 a12 a13 a14).nt → X.W = (rdwA a0 a1 a2 a3 a4 a5 a6 a7 a8 a9 a10 a11 a12 a13 a14).W → (rdwA a0 a1 a2 a3 a4 a5 a6 a7 a8 a9 a10 a11 a12 a13 a14).rgo a = some q → q n = some D → (rdwA a0 a1 a2 a3 a4 a5 a6 a7 a8 a9 a10 a11 a12 a13 a14).RangeOk Try.prog ρ X a D := AF.noRange rfl

theorem rdwctr {ρ : Env} (a0 : Bool) (a1 : Int) (a2 : Int) (a3 : Int) (a4 : Int) (a5 : Nat) (a6 : Nat → Int) (a7 : Nat → Int) (a8 : Nat) (a9 : Nat → Int) (a10 : Nat → Int) (a11 : Nat → Int) (a12 : Nat → Int) (a13 : Int) (a14 : Int) {n : Nat} {v : rdwR} (hM : MemoOk Try.prog (ctxOf Try.prog (memoS 69 rdoP rdoF rdoW rdoH 1 memo0)) ρ) (hv : (rdwA a0 a1 a2 a3 a4 a5 a6 a7 a8 a9 a10 a11 a12 a13 a14).run n = some v) :
    Ctr Try.prog ρ 23 (rdwA a0 a1 a2 a3 a4 a5 a6 a7 a8 a9 a10 a11 a12 a13 a14).args (rdwA a0 a1 a2 a3 a4 a5 a6 a7 a8 a9 a10 a11 a12 a13 a14).H0 (rdwA a0 a1 a2 a3 a4 a5 a6 a7 a8 a9 a10 a11 a12 a13 a14).base (rdwA a0 a1 a2 a3 a4 a5 a6 a7 a8 a9 a10 a11 a12 a13 a14).W ((rdwA a0 a1 a2 a3 a4 a5 a6 a7 a8 a9 a10 a11 a12 a13 a14).rc v) (putH (rdwA a0 a1 a2 a3 a4 a5 a6 a7 a8 a9 a10 a11 a12 a13 a14).H0 ((rdwA a0 a1 a2 a3 a4 a5 a6 a7 a8 a9 a10 a11 a12 a13 a14).rh v ++ (rdwA a0 a1 a2 a3 a4 a5 a6 a7 a8 a9 a10 a11 a12 a13 a14).rx v)) ((rdwA a0 a1 a2 a3 a4 a5 a6 a7 a8 a9 a10 a11 a12 a13 a14).rn v) :=
  AF.ctr try_ok hM (rdwok a0 a1 a2 a3 a4 a5 a6 a7 a8 a9 a10 a11 a12 a13 a14) (fn := Try.f23) Try.func23 rfl rfl (Nat.le_of_ble_eq_true rfl) rfl (rdwhR a0 a1 a2 a3 a4 a5 a6 a7 a8 a9 a10 a11 a12 a13 a14 hM) hv


theorem rdwmem {ρ : Env} : MemoOk Try.prog (ctxOf Try.prog (memoS 69 rdoP rdoF rdoW rdoH 1 memo0)) ρ := (memoS_ok (rdoknown rdomem) memo0_ok)


abbrev rdwP : List AQ := [.agg [.bool, .int .i64, .int .i64, .int .i64, .int .i64, .rows [some .i64, some .i64]], .rows [some .i64, some .i64, some .i64, some .i64], .int .i64, .int .i64]

noncomputable def rdwF (v : AW) : AF rdwN rdwR := rdwA (v.b.getD 0 false) (v.i.getD 0 0) (v.i.getD 1 0) (v.i.getD 2 0) (v.i.getD 3 0) (v.t.getD 0 .none).n ((v.t.getD 0 .none).c 0) ((v.t.getD 0 .none).c 1) (v.t.getD 1 .none).n ((v.t.getD 1 .none).c 0) ((v.t.getD 1 .none).c 1) ((v.t.getD 1 .none).c 2) ((v.t.getD 1 .none).c 3) (v.i.getD 4 0) (v.i.getD 5 0)

noncomputable def rdwW : rdwR → CV := fun v => .agg [.int .i64 (.x v.1), .int .i64 (.x v.2)]
noncomputable def rdwH : rdwR → List (Nat × Blk) := fun v => []



instance : Inhabited rdwR := ⟨(0, 0)⟩
theorem rdwknown {ρ : Env} (hM : MemoOk Try.prog (ctxOf Try.prog (memoS 69 rdoP rdoF rdoW rdoH 1 memo0)) ρ) : KnownS Try.prog ρ 23 rdwP rdwF rdwW rdwH 2 where
  fn := ⟨Try.f23, Try.func23, rfl⟩
  le := Nat.le_of_ble_eq_true rfl
  full := fun r => rfl
  rg := fun r => rfl
  hg := fun r => fa_nil
  ctr := fun v n r h => rdwctr (v.b.getD 0 false) (v.i.getD 0 0) (v.i.getD 1 0) (v.i.getD 2 0) (v.i.getD 3 0) (v.t.getD 0 .none).n ((v.t.getD 0 .none).c 0) ((v.t.getD 0 .none).c 1) (v.t.getD 1 .none).n ((v.t.getD 1 .none).c 0) ((v.t.getD 1 .none).c 1) ((v.t.getD 1 .none).c 2) ((v.t.getD 1 .none).c 3) (v.i.getD 4 0) (v.i.getD 5 0) hM h

end Go.Proofs.Ythagjhadjpangaa.Cx

/- acme/acmeref07.Off as an automaton. Made by tools/cxauto.py. -/
namespace Go.Proofs.Ythagjhadjpangaa.Cx
set_option linter.unusedVariables false
set_option linter.unusedSimpArgs false
set_option maxRecDepth 100000
open Go Go.Proofs Go.RowKit

noncomputable abbrev rofCode : Code := funcCode Try.f70


abbrev rofN := Empty

abbrev rofR := Int × Int

noncomputable def rofD0 (a0 : Bool) (a1 : Int) (a2 : Int) (a3 : Int) (a4 : Int) (a5 : Nat) (a6 : Nat → Int) (a7 : Nat → Int) (a8 : Int) (a9 : Int) : DD (Lf rofN rofR) :=
 .ask (a0)
   (.leaf (.done (Ar.run Ar.add IntKind.i64 (Ar.run Ar.add IntKind.i64 a1 (Ar.run Ar.sub IntKind.i64 0 a9)) a3, Ar.run Ar.add IntKind.i64 (Ar.run Ar.add IntKind.i64 a2 (Ar.run Ar.sub IntKind.i64 0 a8)) a4) []))
   (.leaf (.done (Ar.run Ar.add IntKind.i64 (Ar.run Ar.add IntKind.i64 a1 a8) a3, Ar.run Ar.add IntKind.i64 (Ar.run Ar.add IntKind.i64 a2 a9) a4) []))

noncomputable def rofD (a0 : Bool) (a1 : Int) (a2 : Int) (a3 : Int) (a4 : Int) (a5 : Nat) (a6 : Nat → Int) (a7 : Nat → Int) (a8 : Int) (a9 : Int) : rofN → DD (Lf rofN rofR) := fun a => nomatch a

noncomputable def rofA (a0 : Bool) (a1 : Int) (a2 : Int) (a3 : Int) (a4 : Int) (a5 : Nat) (a6 : Nat → Int) (a7 : Nat → Int) (a8 : Int) (a9 : Int) : AF rofN rofR where
  code := rofCode
  base := 1
  nt := 35
  m := 400
  un := []
  W := []
  h0 := [(0, ⟨.arg a5 2 (fun i => [.int .i64 (.x (a6 i)), .int .i64 (.x (a7 i))]) (fun _ => ⟨rfl, rfl⟩), 2, true, none⟩)]
  args := [.agg [.bool (.x a0), .int .i64 (.x a1), .int .i64 (.x a2), .int .i64 (.x a3), .int .i64 (.x a4), .sla 0 2 0 a5], .agg [.int .i64 (.x a8), .int .i64 (.x a9)]]
  res := (Try.f70).results.toList
  path := fun a => nomatch a
  pd := fun a => nomatch a
  D0 := rofD0 a0 a1 a2 a3 a4 a5 a6 a7 a8 a9
  D := rofD a0 a1 a2 a3 a4 a5 a6 a7 a8 a9
  rc := (fun v => .agg [.int .i64 (.x v.1), .int .i64 (.x v.2)])
  rh := (fun v => [])
  rn := (fun v => 1)
  rx := (fun v => [])
  rgo := (fun _ => none)


theorem rofstart (a0 : Bool) (a1 : Int) (a2 : Int) (a3 : Int) (a4 : Int) (a5 : Nat) (a6 : Nat → Int) (a7 : Nat → Int) (a8 : Int) (a9 : Int) : AF.edgeOk (rofA a0 a1 a2 a3 a4 a5 a6 a7 a8 a9) (ctxOf Try.prog memo0) (rofD0 a0 a1 a2 a3 a4 a5 a6 a7 a8 a9) (AF.run0 (rofA a0 a1 a2 a3 a4 a5 a6 a7 a8 a9) (ctxOf Try.prog memo0)) := by unfold AF.edgeOk; kernel_rfl

theorem rofok (a0 : Bool) (a1 : Int) (a2 : Int) (a3 : Int) (a4 : Int) (a5 : Nat) (a6 : Nat → Int) (a7 : Nat → Int) (a8 : Int) (a9 : Int) : (rofA a0 a1 a2 a3 a4 a5 a6 a7 a8 a9).Ok Try.prog (ctxOf Try.prog memo0) where
  regs := by kernel_rfl
  h0 := by kernel_rfl
  start := rofstart a0 a1 a2 a3 a4 a5 a6 a7 a8 a9
  node := fun a _ => nomatch a
  pd := fun a => nomatch a
  le := fun a => nomatch a
  rd := fun v => ⟨⟨fa_nil, fa_nil, fa_nil, rfl⟩, rfl⟩
  wb := rfl


theorem rofhR {ρ : Env} (a0 : Bool) (a1 : Int) (a2 : Int) (a3 : Int) (a4 : Int) (a5 : Nat) (a6 : Nat → Int) (a7 : Nat → Int) (a8 : Int) (a9 : Int) (hM : MemoOk Try.prog (ctxOf Try.prog memo0) ρ) : ∀ X a q n D, FxOk ρ X → X.base = (rofA a0 a1 a2 a3 a4 a5 a6 a7 a8 a9).base → X.nt = (rofA a0 a1 a2 a3 a4 a5 a6 a7 a8 a9).nt → X.W = (rofA a0 a1 a2 a3 a4 a5 a6 a7 a8 a9).W → (rofA a0 a1 a2 a3 a4 a5 a6 a7 a8 a9).rgo a = some q → q n = some D → (rofA a0 a1 a2 a3 a4 a5 a6 a7 a8 a9).RangeOk Try.prog ρ X a D := AF.noRange rfl

theorem rofctr {ρ : Env} (a0 : Bool) (a1 : Int) (a2 : Int) (a3 : Int) (a4 : Int) (a5 : Nat) (a6 : Nat → Int) (a7 : Nat → Int) (a8 : Int) (a9 : Int) {n : Nat} {v : rofR} (hM : MemoOk Try.prog (ctxOf Try.prog memo0) ρ) (hv : (rofA a0 a1 a2 a3 a4 a5 a6 a7 a8 a9).run n = some v) :
    Ctr Try.prog ρ 70 (rofA a0 a1 a2 a3 a4 a5 a6 a7 a8 a9).args (rofA a0 a1 a2 a3 a4 a5 a6 a7 a8 a9).H0 (rofA a0 a1 a2 a3 a4 a5 a6 a7 a8 a9).base (rofA a0 a1 a2 a3 a4 a5 a6 a7 a8 a9).W ((rofA a0 a1 a2 a3 a4 a5 a6 a7 a8 a9).rc v) (putH (rofA a0 a1 a2 a3 a4 a5 a6 a7 a8 a9).H0 ((rofA a0 a1 a2 a3 a4 a5 a6 a7 a8 a9).rh v ++ (rofA a0 a1 a2 a3 a4 a5 a6 a7 a8 a9).rx v)) ((rofA a0 a1 a2 a3 a4 a5 a6 a7 a8 a9).rn v) :=
  AF.ctr try_ok hM (rofok a0 a1 a2 a3 a4 a5 a6 a7 a8 a9) (fn := Try.f70) Try.func70 rfl rfl (Nat.le_of_ble_eq_true rfl) rfl (rofhR a0 a1 a2 a3 a4 a5 a6 a7 a8 a9 hM) hv


theorem rofmem {ρ : Env} : MemoOk Try.prog (ctxOf Try.prog memo0) ρ := memo0_ok


abbrev rofP : List AQ := [.agg [.bool, .int .i64, .int .i64, .int .i64, .int .i64, .rows [some .i64, some .i64]], .agg [.int .i64, .int .i64]]

noncomputable def rofF (v : AW) : AF rofN rofR := rofA (v.b.getD 0 false) (v.i.getD 0 0) (v.i.getD 1 0) (v.i.getD 2 0) (v.i.getD 3 0) (v.t.getD 0 .none).n ((v.t.getD 0 .none).c 0) ((v.t.getD 0 .none).c 1) (v.i.getD 4 0) (v.i.getD 5 0)

noncomputable def rofW : rofR → CV := fun v => .agg [.int .i64 (.x v.1), .int .i64 (.x v.2)]
noncomputable def rofH : rofR → List (Nat × Blk) := fun v => []



instance : Inhabited rofR := ⟨(0, 0)⟩
theorem rofknown {ρ : Env} (hM : MemoOk Try.prog (ctxOf Try.prog memo0) ρ) : KnownS Try.prog ρ 70 rofP rofF rofW rofH 1 where
  fn := ⟨Try.f70, Try.func70, rfl⟩
  le := Nat.le_of_ble_eq_true rfl
  full := fun r => rfl
  rg := fun r => rfl
  hg := fun r => fa_nil
  ctr := fun v n r h => rofctr (v.b.getD 0 false) (v.i.getD 0 0) (v.i.getD 1 0) (v.i.getD 2 0) (v.i.getD 3 0) (v.t.getD 0 .none).n ((v.t.getD 0 .none).c 0) ((v.t.getD 0 .none).c 1) (v.i.getD 4 0) (v.i.getD 5 0) hM h

end Go.Proofs.Ythagjhadjpangaa.Cx

/- acme/acmeref07.Targets as an automaton. Made by tools/cxauto.py. -/
namespace Go.Proofs.Ythagjhadjpangaa.Cx
set_option linter.unusedVariables false
set_option linter.unusedSimpArgs false
set_option maxRecDepth 100000
open Go Go.Proofs Go.RowKit

noncomputable abbrev rdtCode : Code := funcCode Try.f24


inductive rdtN where
  | n0
  | n1 (p0 : Int) (p1 : Int) (p2 : Int) (p3 : Int) (p4 : Int)

abbrev rdtR := Int × Int

noncomputable def rdtD0 (a0 : Bool) (a1 : Int) (a2 : Int) (a3 : Int) (a4 : Int) (a5 : Nat) (a6 : Nat → Int) (a7 : Nat → Int) (a8 : Nat) (a9 : Nat → Int) (a10 : Nat → Int) (a11 : Nat → Int) (a12 : Nat → Int) (a13 : Int) (a14 : Int) : DD (Lf rdtN rdtR) :=
 .leaf (.next (.n0) [2, 3, 4, 5])

noncomputable def rdtD (a0 : Bool) (a1 : Int) (a2 : Int) (a3 : Int) (a4 : Int) (a5 : Nat) (a6 : Nat → Int) (a7 : Nat → Int) (a8 : Nat) (a9 : Nat → Int) (a10 : Nat → Int) (a11 : Nat → Int) (a12 : Nat → Int) (a13 : Int) (a14 : Int) : rdtN → DD (Lf rdtN rdtR)
 | .n0 =>
 .ask (Cm.run Cm.lss a13 a14)
   (.must (decide (0 + a8 ≤ a8))
   (.must (ShapeOk [some IntKind.i64, some IntKind.i64, some IntKind.i64, some IntKind.i64] (tabOf a8 fun i => [CV.int IntKind.i64 (IE.x (a9 (0 + i))), CV.int IntKind.i64 (IE.x (a10 (0 + i))), CV.int IntKind.i64 (IE.x (a11 (0 + i))), CV.int IntKind.i64 (IE.x (a12 (0 + i)))]) fun i => [CV.int IntKind.i64 (IE.x (a9 (0 + i))), CV.int IntKind.i64 (IE.x (a10 (0 + i))), CV.int IntKind.i64 (IE.x (a11 (0 + i))), CV.int IntKind.i64 (IE.x (a12 (0 + i)))])
   (.must (AF.fin (rdoA a8 (fun i => a9 (0 + i)) (fun i => a10 (0 + i)) (fun i => a11 (0 + i)) (fun i => a12 (0 + i)) a13))
   (.must (decide (0 + a5 ≤ a5))
   (.must (ShapeOk [some IntKind.i64, some IntKind.i64] (tabOf a5 fun i => [CV.int IntKind.i64 (IE.x (a6 (0 + i))), CV.int IntKind.i64 (IE.x (a7 (0 + i)))]) fun i => [CV.int IntKind.i64 (IE.x (a6 (0 + i))), CV.int IntKind.i64 (IE.x (a7 (0 + i)))])
   (.must (AF.fin (rofA a0 a1 a2 a3 a4 a5 (fun i => a6 (0 + i)) (fun i => a7 (0 + i)) 0 0))
   (.must (decide (0 ≤ Prod.fst (Prod.snd (AF.val (rdoA a8 (fun i => a9 (0 + i)) (fun i => a10 (0 + i)) (fun i => a11 (0 + i)) (fun i => a12 (0 + i)) a13)))))
   (.must (decide (Prod.fst (Prod.snd (AF.val (rdoA a8 (fun i => a9 (0 + i)) (fun i => a10 (0 + i)) (fun i => a11 (0 + i)) (fun i => a12 (0 + i)) a13))) < (↑a5 : Int)))
   (.must (decide (0 + Int.toNat (Prod.fst (Prod.snd (AF.val (rdoA a8 (fun i => a9 (0 + i)) (fun i => a10 (0 + i)) (fun i => a11 (0 + i)) (fun i => a12 (0 + i)) a13)))) < a5))
   (.leaf (.next (.n1 (Ar.run Ar.add IntKind.i64 a13 1) (Ar.run Ar.mx IntKind.i64 (-1152921504606846976) (Ar.run Ar.sub IntKind.i64 (Prod.fst (Prod.snd (Prod.snd (AF.val (rdoA a8 (fun i => a9 (0 + i)) (fun i => a10 (0 + i)) (fun i => a11 (0 + i)) (fun i => a12 (0 + i)) a13))))) (Prod.fst (AF.val (rofA a0 a1 a2 a3 a4 a5 (fun i => a6 (0 + i)) (fun i => a7 (0 + i)) 0 0))))) (Ar.run Ar.mn IntKind.i64 1152921504606846976 (Ar.run Ar.sub IntKind.i64 (Prod.snd (Prod.snd (Prod.snd (AF.val (rdoA a8 (fun i => a9 (0 + i)) (fun i => a10 (0 + i)) (fun i => a11 (0 + i)) (fun i => a12 (0 + i)) a13))))) (Prod.snd (AF.val (rofA a0 a1 a2 a3 a4 a5 (fun i => a6 (0 + i)) (fun i => a7 (0 + i)) 0 0))))) (Ar.run Ar.add IntKind.i64 0 (a6 (0 + Int.toNat (Prod.fst (Prod.snd (AF.val (rdoF (AG.v { v := { i := AW.i (AG.v { v := { i := AW.i (AG.v { v := { i := [], b := [], t := [] }, sh := [], R := [] }), b := AW.b (AG.v { v := { i := [], b := [], t := [] }, sh := [], R := [] }), t := AW.t (AG.v { v := { i := [], b := [], t := [] }, sh := [], R := [] }) ++ [tabOf a8 fun i => (fun i => [CV.int IntKind.i64 (IE.x (a9 i)), CV.int IntKind.i64 (IE.x (a10 i)), CV.int IntKind.i64 (IE.x (a11 i)), CV.int IntKind.i64 (IE.x (a12 i))]) (0 + i)] }, sh := AG.sh { v := { i := [], b := [], t := [] }, sh := [], R := [] } ++ [decide (0 + a8 ≤ a8), ShapeOk [some IntKind.i64, some IntKind.i64, some IntKind.i64, some IntKind.i64] (tabOf a8 fun i => (fun i => [CV.int IntKind.i64 (IE.x (a9 i)), CV.int IntKind.i64 (IE.x (a10 i)), CV.int IntKind.i64 (IE.x (a11 i)), CV.int IntKind.i64 (IE.x (a12 i))]) (0 + i)) fun i => (fun i => [CV.int IntKind.i64 (IE.x (a9 i)), CV.int IntKind.i64 (IE.x (a10 i)), CV.int IntKind.i64 (IE.x (a11 i)), CV.int IntKind.i64 (IE.x (a12 i))]) (0 + i)], R := AG.R { v := { i := [], b := [], t := [] }, sh := [], R := [] } ++ [1] }) ++ [a13], b := AW.b (AG.v { v := { i := AW.i (AG.v { v := { i := [], b := [], t := [] }, sh := [], R := [] }), b := AW.b (AG.v { v := { i := [], b := [], t := [] }, sh := [], R := [] }), t := AW.t (AG.v { v := { i := [], b := [], t := [] }, sh := [], R := [] }) ++ [tabOf a8 fun i => (fun i => [CV.int IntKind.i64 (IE.x (a9 i)), CV.int IntKind.i64 (IE.x (a10 i)), CV.int IntKind.i64 (IE.x (a11 i)), CV.int IntKind.i64 (IE.x (a12 i))]) (0 + i)] }, sh := AG.sh { v := { i := [], b := [], t := [] }, sh := [], R := [] } ++ [decide (0 + a8 ≤ a8), ShapeOk [some IntKind.i64, some IntKind.i64, some IntKind.i64, some IntKind.i64] (tabOf a8 fun i => (fun i => [CV.int IntKind.i64 (IE.x (a9 i)), CV.int IntKind.i64 (IE.x (a10 i)), CV.int IntKind.i64 (IE.x (a11 i)), CV.int IntKind.i64 (IE.x (a12 i))]) (0 + i)) fun i => (fun i => [CV.int IntKind.i64 (IE.x (a9 i)), CV.int IntKind.i64 (IE.x (a10 i)), CV.int IntKind.i64 (IE.x (a11 i)), CV.int IntKind.i64 (IE.x (a12 i))]) (0 + i)], R := AG.R { v := { i := [], b := [], t := [] }, sh := [], R := [] } ++ [1] }), t := AW.t (AG.v { v := { i := AW.i (AG.v { v := { i := [], b := [], t := [] }, sh := [], R := [] }), b := AW.b (AG.v { v := { i := [], b := [], t := [] }, sh := [], R := [] }), t := AW.t (AG.v { v := { i := [], b := [], t := [] }, sh := [], R := [] }) ++ [tabOf a8 fun i => (fun i => [CV.int IntKind.i64 (IE.x (a9 i)), CV.int IntKind.i64 (IE.x (a10 i)), CV.int IntKind.i64 (IE.x (a11 i)), CV.int IntKind.i64 (IE.x (a12 i))]) (0 + i)] }, sh := AG.sh { v := { i := [], b := [], t := [] }, sh := [], R := [] } ++ [decide (0 + a8 ≤ a8), ShapeOk [some IntKind.i64, some IntKind.i64, some IntKind.i64, some IntKind.i64] (tabOf a8 fun i => (fun i => [CV.int IntKind.i64 (IE.x (a9 i)), CV.int IntKind.i64 (IE.x (a10 i)), CV.int IntKind.i64 (IE.x (a11 i)), CV.int IntKind.i64 (IE.x (a12 i))]) (0 + i)) fun i => (fun i => [CV.int IntKind.i64 (IE.x (a9 i)), CV.int IntKind.i64 (IE.x (a10 i)), CV.int IntKind.i64 (IE.x (a11 i)), CV.int IntKind.i64 (IE.x (a12 i))]) (0 + i)], R := AG.R { v := { i := [], b := [], t := [] }, sh := [], R := [] } ++ [1] }) }, sh := AG.sh { v := { i := AW.i (AG.v { v := { i := [], b := [], t := [] }, sh := [], R := [] }), b := AW.b (AG.v { v := { i := [], b := [], t := [] }, sh := [], R := [] }), t := AW.t (AG.v { v := { i := [], b := [], t := [] }, sh := [], R := [] }) ++ [tabOf a8 fun i => (fun i => [CV.int IntKind.i64 (IE.x (a9 i)), CV.int IntKind.i64 (IE.x (a10 i)), CV.int IntKind.i64 (IE.x (a11 i)), CV.int IntKind.i64 (IE.x (a12 i))]) (0 + i)] }, sh := AG.sh { v := { i := [], b := [], t := [] }, sh := [], R := [] } ++ [decide (0 + a8 ≤ a8), ShapeOk [some IntKind.i64, some IntKind.i64, some IntKind.i64, some IntKind.i64] (tabOf a8 fun i => (fun i => [CV.int IntKind.i64 (IE.x (a9 i)), CV.int IntKind.i64 (IE.x (a10 i)), CV.int IntKind.i64 (IE.x (a11 i)), CV.int IntKind.i64 (IE.x (a12 i))]) (0 + i)) fun i => (fun i => [CV.int IntKind.i64 (IE.x (a9 i)), CV.int IntKind.i64 (IE.x (a10 i)), CV.int IntKind.i64 (IE.x (a11 i)), CV.int IntKind.i64 (IE.x (a12 i))]) (0 + i)], R := AG.R { v := { i := [], b := [], t := [] }, sh := [], R := [] } ++ [1] }, R := AG.R { v := { i := AW.i (AG.v { v := { i := [], b := [], t := [] }, sh := [], R := [] }), b := AW.b (AG.v { v := { i := [], b := [], t := [] }, sh := [], R := [] }), t := AW.t (AG.v { v := { i := [], b := [], t := [] }, sh := [], R := [] }) ++ [tabOf a8 fun i => (fun i => [CV.int IntKind.i64 (IE.x (a9 i)), CV.int IntKind.i64 (IE.x (a10 i)), CV.int IntKind.i64 (IE.x (a11 i)), CV.int IntKind.i64 (IE.x (a12 i))]) (0 + i)] }, sh := AG.sh { v := { i := [], b := [], t := [] }, sh := [], R := [] } ++ [decide (0 + a8 ≤ a8), ShapeOk [some IntKind.i64, some IntKind.i64, some IntKind.i64, some IntKind.i64] (tabOf a8 fun i => (fun i => [CV.int IntKind.i64 (IE.x (a9 i)), CV.int IntKind.i64 (IE.x (a10 i)), CV.int IntKind.i64 (IE.x (a11 i)), CV.int IntKind.i64 (IE.x (a12 i))]) (0 + i)) fun i => (fun i => [CV.int IntKind.i64 (IE.x (a9 i)), CV.int IntKind.i64 (IE.x (a10 i)), CV.int IntKind.i64 (IE.x (a11 i)), CV.int IntKind.i64 (IE.x (a12 i))]) (0 + i)], R := AG.R { v := { i := [], b := [], t := [] }, sh := [], R := [] } ++ [1] } })))))))) (Ar.run Ar.add IntKind.i64 0 (a7 (0 + Int.toNat (Prod.fst (Prod.snd (AF.val (rdoF (AG.v { v := { i := AW.i (AG.v { v := { i := AW.i (AG.v { v := { i := [], b := [], t := [] }, sh := [], R := [] }), b := AW.b (AG.v { v := { i := [], b := [], t := [] }, sh := [], R := [] }), t := AW.t (AG.v { v := { i := [], b := [], t := [] }, sh := [], R := [] }) ++ [tabOf a8 fun i => (fun i => [CV.int IntKind.i64 (IE.x (a9 i)), CV.int IntKind.i64 (IE.x (a10 i)), CV.int IntKind.i64 (IE.x (a11 i)), CV.int IntKind.i64 (IE.x (a12 i))]) (0 + i)] }, sh := AG.sh { v := { i := [], b := [], t := [] }, sh := [], R := [] } ++ [decide (0 + a8 ≤ a8), ShapeOk [some IntKind.i64, some IntKind.i64, some IntKind.i64, some IntKind.i64] (tabOf a8 fun i => (fun i => [CV.int IntKind.i64 (IE.x (a9 i)), CV.int IntKind.i64 (IE.x (a10 i)), CV.int IntKind.i64 (IE.x (a11 i)), CV.int IntKind.i64 (IE.x (a12 i))]) (0 + i)) fun i => (fun i => [CV.int IntKind.i64 (IE.x (a9 i)), CV.int IntKind.i64 (IE.x (a10 i)), CV.int IntKind.i64 (IE.x (a11 i)), CV.int IntKind.i64 (IE.x (a12 i))]) (0 + i)], R := AG.R { v := { i := [], b := [], t := [] }, sh := [], R := [] } ++ [1] }) ++ [a13], b := AW.b (AG.v { v := { i := AW.i (AG.v { v := { i := [], b := [], t := [] }, sh := [], R := [] }), b := AW.b (AG.v { v := { i := [], b := [], t := [] }, sh := [], R := [] }), t := AW.t (AG.v { v := { i := [], b := [], t := [] }, sh := [], R := [] }) ++ [tabOf a8 fun i => (fun i => [CV.int IntKind.i64 (IE.x (a9 i)), CV.int IntKind.i64 (IE.x (a10 i)), CV.int IntKind.i64 (IE.x (a11 i)), CV.int IntKind.i64 (IE.x (a12 i))]) (0 + i)] }, sh := AG.sh { v := { i := [], b := [], t := [] }, sh := [], R := [] } ++ [decide (0 + a8 ≤ a8), ShapeOk [some IntKind.i64, some IntKind.i64, some IntKind.i64, some IntKind.i64] (tabOf a8 fun i => (fun i => [CV.int IntKind.i64 (IE.x (a9 i)), CV.int IntKind.i64 (IE.x (a10 i)), CV.int IntKind.i64 (IE.x (a11 i)), CV.int IntKind.i64 (IE.x (a12 i))]) (0 + i)) fun i => (fun i => [CV.int IntKind.i64 (IE.x (a9 i)), CV.int IntKind.i64 (IE.x (a10 i)), CV.int IntKind.i64 (IE.x (a11 i)), CV.int IntKind.i64 (IE.x (a12 i))]) (0 + i)], R := AG.R { v := { i := [], b := [], t := [] }, sh := [], R := [] } ++ [1] }), t := AW.t (AG.v { v := { i := AW.i (AG.v { v := { i := [], b := [], t := [] }, sh := [], R := [] }), b := AW.b (AG.v { v := { i := [], b := [], t := [] }, sh := [], R := [] }), t := AW.t (AG.v { v := { i := [], b := [], t := [] }, sh := [], R := [] }) ++ [tabOf a8 fun i => (fun i => [CV.int IntKind.i64 (IE.x (a9 i)), CV.int IntKind.i64 (IE.x (a10 i)), CV.int IntKind.i64 (IE.x (a11 i)), CV.int IntKind.i64 (IE.x (a12 i))]) (0 + i)] }, sh := AG.sh { v := { i := [], b := [], t := [] }, sh := [], R := [] } ++ [decide (0 + a8 ≤ a8), ShapeOk [some IntKind.i64, some IntKind.i64, some IntKind.i64, some IntKind.i64] (tabOf a8 fun i => (fun i => [CV.int IntKind.i64 (IE.x (a9 i)), CV.int IntKind.i64 (IE.x (a10 i)), CV.int IntKind.i64 (IE.x (a11 i)), CV.int IntKind.i64 (IE.x (a12 i))]) (0 + i)) fun i => (fun i => [CV.int IntKind.i64 (IE.x (a9 i)), CV.int IntKind.i64 (IE.x (a10 i)), CV.int IntKind.i64 (IE.x (a11 i)), CV.int IntKind.i64 (IE.x (a12 i))]) (0 + i)], R := AG.R { v := { i := [], b := [], t := [] }, sh := [], R := [] } ++ [1] }) }, sh := AG.sh { v := { i := AW.i (AG.v { v := { i := [], b := [], t := [] }, sh := [], R := [] }), b := AW.b (AG.v { v := { i := [], b := [], t := [] }, sh := [], R := [] }), t := AW.t (AG.v { v := { i := [], b := [], t := [] }, sh := [], R := [] }) ++ [tabOf a8 fun i => (fun i => [CV.int IntKind.i64 (IE.x (a9 i)), CV.int IntKind.i64 (IE.x (a10 i)), CV.int IntKind.i64 (IE.x (a11 i)), CV.int IntKind.i64 (IE.x (a12 i))]) (0 + i)] }, sh := AG.sh { v := { i := [], b := [], t := [] }, sh := [], R := [] } ++ [decide (0 + a8 ≤ a8), ShapeOk [some IntKind.i64, some IntKind.i64, some IntKind.i64, some IntKind.i64] (tabOf a8 fun i => (fun i => [CV.int IntKind.i64 (IE.x (a9 i)), CV.int IntKind.i64 (IE.x (a10 i)), CV.int IntKind.i64 (IE.x (a11 i)), CV.int IntKind.i64 (IE.x (a12 i))]) (0 + i)) fun i => (fun i => [CV.int IntKind.i64 (IE.x (a9 i)), CV.int IntKind.i64 (IE.x (a10 i)), CV.int IntKind.i64 (IE.x (a11 i)), CV.int IntKind.i64 (IE.x (a12 i))]) (0 + i)], R := AG.R { v := { i := [], b := [], t := [] }, sh := [], R := [] } ++ [1] }, R := AG.R { v := { i := AW.i (AG.v { v := { i := [], b := [], t := [] }, sh := [], R := [] }), b := AW.b (AG.v { v := { i := [], b := [], t := [] }, sh := [], R := [] }), t := AW.t (AG.v { v := { i := [], b := [], t := [] }, sh := [], R := [] }) ++ [tabOf a8 fun i => (fun i => [CV.int IntKind.i64 (IE.x (a9 i)), CV.int IntKind.i64 (IE.x (a10 i)), CV.int IntKind.i64 (IE.x (a11 i)), CV.int IntKind.i64 (IE.x (a12 i))]) (0 + i)] }, sh := AG.sh { v := { i := [], b := [], t := [] }, sh := [], R := [] } ++ [decide (0 + a8 ≤ a8), ShapeOk [some IntKind.i64, some IntKind.i64, some IntKind.i64, some IntKind.i64] (tabOf a8 fun i => (fun i => [CV.int IntKind.i64 (IE.x (a9 i)), CV.int IntKind.i64 (IE.x (a10 i)), CV.int IntKind.i64 (IE.x (a11 i)), CV.int IntKind.i64 (IE.x (a12 i))]) (0 + i)) fun i => (fun i => [CV.int IntKind.i64 (IE.x (a9 i)), CV.int IntKind.i64 (IE.x (a10 i)), CV.int IntKind.i64 (IE.x (a11 i)), CV.int IntKind.i64 (IE.x (a12 i))]) (0 + i)], R := AG.R { v := { i := [], b := [], t := [] }, sh := [], R := [] } ++ [1] } }))))))))) [2, 3, 4, 5])))))))))))
   (.leaf (.done (-1152921504606846976, 1152921504606846976) []))
 | .n1 p0 p1 p2 p3 p4 =>
 .ask (Cm.run Cm.lss p0 a14)
   (.must (decide (0 + a8 ≤ a8))
   (.must (ShapeOk [some IntKind.i64, some IntKind.i64, some IntKind.i64, some IntKind.i64] (tabOf a8 fun i => [CV.int IntKind.i64 (IE.x (a9 (0 + i))), CV.int IntKind.i64 (IE.x (a10 (0 + i))), CV.int IntKind.i64 (IE.x (a11 (0 + i))), CV.int IntKind.i64 (IE.x (a12 (0 + i)))]) fun i => [CV.int IntKind.i64 (IE.x (a9 (0 + i))), CV.int IntKind.i64 (IE.x (a10 (0 + i))), CV.int IntKind.i64 (IE.x (a11 (0 + i))), CV.int IntKind.i64 (IE.x (a12 (0 + i)))])
   (.must (AF.fin (rdoA a8 (fun i => a9 (0 + i)) (fun i => a10 (0 + i)) (fun i => a11 (0 + i)) (fun i => a12 (0 + i)) p0))
   (.must (decide (0 + a5 ≤ a5))
   (.must (ShapeOk [some IntKind.i64, some IntKind.i64] (tabOf a5 fun i => [CV.int IntKind.i64 (IE.x (a6 (0 + i))), CV.int IntKind.i64 (IE.x (a7 (0 + i)))]) fun i => [CV.int IntKind.i64 (IE.x (a6 (0 + i))), CV.int IntKind.i64 (IE.x (a7 (0 + i)))])
   (.must (AF.fin (rofA a0 a1 a2 a3 a4 a5 (fun i => a6 (0 + i)) (fun i => a7 (0 + i)) p3 p4))
   (.must (decide (0 ≤ Prod.fst (Prod.snd (AF.val (rdoA a8 (fun i => a9 (0 + i)) (fun i => a10 (0 + i)) (fun i => a11 (0 + i)) (fun i => a12 (0 + i)) p0)))))
   (.must (decide (Prod.fst (Prod.snd (AF.val (rdoA a8 (fun i => a9 (0 + i)) (fun i => a10 (0 + i)) (fun i => a11 (0 + i)) (fun i => a12 (0 + i)) p0))) < (↑a5 : Int)))
   (.must (decide (0 + Int.toNat (Prod.fst (Prod.snd (AF.val (rdoA a8 (fun i => a9 (0 + i)) (fun i => a10 (0 + i)) (fun i => a11 (0 + i)) (fun i => a12 (0 + i)) p0)))) < a5))
   (.leaf (.next (.n1 (Ar.run Ar.add IntKind.i64 p0 1) (Ar.run Ar.mx IntKind.i64 p1 (Ar.run Ar.sub IntKind.i64 (Prod.fst (Prod.snd (Prod.snd (AF.val (rdoA a8 (fun i => a9 (0 + i)) (fun i => a10 (0 + i)) (fun i => a11 (0 + i)) (fun i => a12 (0 + i)) p0))))) (Prod.fst (AF.val (rofA a0 a1 a2 a3 a4 a5 (fun i => a6 (0 + i)) (fun i => a7 (0 + i)) p3 p4))))) (Ar.run Ar.mn IntKind.i64 p2 (Ar.run Ar.sub IntKind.i64 (Prod.snd (Prod.snd (Prod.snd (AF.val (rdoA a8 (fun i => a9 (0 + i)) (fun i => a10 (0 + i)) (fun i => a11 (0 + i)) (fun i => a12 (0 + i)) p0))))) (Prod.snd (AF.val (rofA a0 a1 a2 a3 a4 a5 (fun i => a6 (0 + i)) (fun i => a7 (0 + i)) p3 p4))))) (Ar.run Ar.add IntKind.i64 p3 (a6 (0 + Int.toNat (Prod.fst (Prod.snd (AF.val (rdoF (AG.v { v := { i := AW.i (AG.v { v := { i := AW.i (AG.v { v := { i := [], b := [], t := [] }, sh := [], R := [] }), b := AW.b (AG.v { v := { i := [], b := [], t := [] }, sh := [], R := [] }), t := AW.t (AG.v { v := { i := [], b := [], t := [] }, sh := [], R := [] }) ++ [tabOf a8 fun i => (fun i => [CV.int IntKind.i64 (IE.x (a9 i)), CV.int IntKind.i64 (IE.x (a10 i)), CV.int IntKind.i64 (IE.x (a11 i)), CV.int IntKind.i64 (IE.x (a12 i))]) (0 + i)] }, sh := AG.sh { v := { i := [], b := [], t := [] }, sh := [], R := [] } ++ [decide (0 + a8 ≤ a8), ShapeOk [some IntKind.i64, some IntKind.i64, some IntKind.i64, some IntKind.i64] (tabOf a8 fun i => (fun i => [CV.int IntKind.i64 (IE.x (a9 i)), CV.int IntKind.i64 (IE.x (a10 i)), CV.int IntKind.i64 (IE.x (a11 i)), CV.int IntKind.i64 (IE.x (a12 i))]) (0 + i)) fun i => (fun i => [CV.int IntKind.i64 (IE.x (a9 i)), CV.int IntKind.i64 (IE.x (a10 i)), CV.int IntKind.i64 (IE.x (a11 i)), CV.int IntKind.i64 (IE.x (a12 i))]) (0 + i)], R := AG.R { v := { i := [], b := [], t := [] }, sh := [], R := [] } ++ [1] }) ++ [p0], b := AW.b (AG.v { v := { i := AW.i (AG.v { v := { i := [], b := [], t := [] }, sh := [], R := [] }), b := AW.b (AG.v { v := { i := [], b := [], t := [] }, sh := [], R := [] }), t := AW.t (AG.v { v := { i := [], b := [], t := [] }, sh := [], R := [] }) ++ [tabOf a8 fun i => (fun i => [CV.int IntKind.i64 (IE.x (a9 i)), CV.int IntKind.i64 (IE.x (a10 i)), CV.int IntKind.i64 (IE.x (a11 i)), CV.int IntKind.i64 (IE.x (a12 i))]) (0 + i)] }, sh := AG.sh { v := { i := [], b := [], t := [] }, sh := [], R := [] } ++ [decide (0 + a8 ≤ a8), ShapeOk [some IntKind.i64, some IntKind.i64, some IntKind.i64, some IntKind.i64] (tabOf a8 fun i => (fun i => [CV.int IntKind.i64 (IE.x (a9 i)), CV.int IntKind.i64 (IE.x (a10 i)), CV.int IntKind.i64 (IE.x (a11 i)), CV.int IntKind.i64 (IE.x (a12 i))]) (0 + i)) fun i => (fun i => [CV.int IntKind.i64 (IE.x (a9 i)), CV.int IntKind.i64 (IE.x (a10 i)), CV.int IntKind.i64 (IE.x (a11 i)), CV.int IntKind.i64 (IE.x (a12 i))]) (0 + i)], R := AG.R { v := { i := [], b := [], t := [] }, sh := [], R := [] } ++ [1] }), t := AW.t (AG.v { v := { i := AW.i (AG.v { v := { i := [], b := [], t := [] }, sh := [], R := [] }), b := AW.b (AG.v { v := { i := [], b := [], t := [] }, sh := [], R := [] }), t := AW.t (AG.v { v := { i := [], b := [], t := [] }, sh := [], R := [] }) ++ [tabOf a8 fun i => (fun i => [CV.int IntKind.i64 (IE.x (a9 i)), CV.int IntKind.i64 (IE.x (a10 i)), CV.int IntKind.i64 (IE.x (a11 i)), CV.int IntKind.i64 (IE.x (a12 i))]) (0 + i)] }, sh := AG.sh { v := { i := [], b := [], t := [] }, sh := [], R := [] } ++ [decide (0 + a8 ≤ a8), ShapeOk [some IntKind.i64, some IntKind.i64, some IntKind.i64, some IntKind.i64] (tabOf a8 fun i => (fun i => [CV.int IntKind.i64 (IE.x (a9 i)), CV.int IntKind.i64 (IE.x (a10 i)), CV.int IntKind.i64 (IE.x (a11 i)), CV.int IntKind.i64 (IE.x (a12 i))]) (0 + i)) fun i => (fun i => [CV.int IntKind.i64 (IE.x (a9 i)), CV.int IntKind.i64 (IE.x (a10 i)), CV.int IntKind.i64 (IE.x (a11 i)), CV.int IntKind.i64 (IE.x (a12 i))]) (0 + i)], R := AG.R { v := { i := [], b := [], t := [] }, sh := [], R := [] } ++ [1] }) }, sh := AG.sh { v := { i := AW.i (AG.v { v := { i := [], b := [], t := [] }, sh := [], R := [] }), b := AW.b (AG.v { v := { i := [], b := [], t := [] }, sh := [], R := [] }), t := AW.t (AG.v { v := { i := [], b := [], t := [] }, sh := [], R := [] }) ++ [tabOf a8 fun i => (fun i => [CV.int IntKind.i64 (IE.x (a9 i)), CV.int IntKind.i64 (IE.x (a10 i)), CV.int IntKind.i64 (IE.x (a11 i)), CV.int IntKind.i64 (IE.x (a12 i))]) (0 + i)] }, sh := AG.sh { v := { i := [], b := [], t := [] }, sh := [], R := [] } ++ [decide (0 + a8 ≤ a8), ShapeOk [some IntKind.i64, some IntKind.i64, some IntKind.i64, some IntKind.i64] (tabOf a8 fun i => (fun i => [CV.int IntKind.i64 (IE.x (a9 i)), CV.int IntKind.i64 (IE.x (a10 i)), CV.int IntKind.i64 (IE.x (a11 i)), CV.int IntKind.i64 (IE.x (a12 i))]) (0 + i)) fun i => (fun i => [CV.int IntKind.i64 (IE.x (a9 i)), CV.int IntKind.i64 (IE.x (a10 i)), CV.int IntKind.i64 (IE.x (a11 i)), CV.int IntKind.i64 (IE.x (a12 i))]) (0 + i)], R := AG.R { v := { i := [], b := [], t := [] }, sh := [], R := [] } ++ [1] }, R := AG.R { v := { i := AW.i (AG.v { v := { i := [], b := [], t := [] }, sh := [], R := [] }), b := AW.b (AG.v { v := { i := [], b := [], t := [] }, sh := [], R := [] }), t := AW.t (AG.v { v := { i := [], b := [], t := [] }, sh := [], R := [] }) ++ [tabOf a8 fun i => (fun i => [CV.int IntKind.i64 (IE.x (a9 i)), CV.int IntKind.i64 (IE.x (a10 i)), CV.int IntKind.i64 (IE.x (a11 i)), CV.int IntKind.i64 (IE.x (a12 i))]) (0 + i)] }, sh := AG.sh { v := { i := [], b := [], t := [] }, sh := [], R := [] } ++ [decide (0 + a8 ≤ a8), ShapeOk [some IntKind.i64, some IntKind.i64, some IntKind.i64, some IntKind.i64] (tabOf a8 fun i => (fun i => [CV.int IntKind.i64 (IE.x (a9 i)), CV.int IntKind.i64 (IE.x (a10 i)), CV.int IntKind.i64 (IE.x (a11 i)), CV.int IntKind.i64 (IE.x (a12 i))]) (0 + i)) fun i => (fun i => [CV.int IntKind.i64 (IE.x (a9 i)), CV.int IntKind.i64 (IE.x (a10 i)), CV.int IntKind.i64 (IE.x (a11 i)), CV.int IntKind.i64 (IE.x (a12 i))]) (0 + i)], R := AG.R { v := { i := [], b := [], t := [] }, sh := [], R := [] } ++ [1] } })))))))) (Ar.run Ar.add IntKind.i64 p4 (a7 (0 + Int.toNat (Prod.fst (Prod.snd (AF.val (rdoF (AG.v { v := { i := AW.i (AG.v { v := { i := AW.i (AG.v { v := { i := [], b := [], t := [] }, sh := [], R := [] }), b := AW.b (AG.v { v := { i := [], b := [], t := [] }, sh := [], R := [] }), t := AW.t (AG.v { v := { i := [], b := [], t := [] }, sh := [], R := [] }) ++ [tabOf a8 fun i => (fun i => [CV.int IntKind.i64 (IE.x (a9 i)), CV.int IntKind.i64 (IE.x (a10 i)), CV.int IntKind.i64 (IE.x (a11 i)), CV.int IntKind.i64 (IE.x (a12 i))]) (0 + i)] }, sh := AG.sh { v := { i := [], b := [], t := [] }, sh := [], R := [] } ++ [decide (0 + a8 ≤ a8), ShapeOk [some IntKind.i64, some IntKind.i64, some IntKind.i64, some IntKind.i64] (tabOf a8 fun i => (fun i => [CV.int IntKind.i64 (IE.x (a9 i)), CV.int IntKind.i64 (IE.x (a10 i)), CV.int IntKind.i64 (IE.x (a11 i)), CV.int IntKind.i64 (IE.x (a12 i))]) (0 + i)) fun i => (fun i => [CV.int IntKind.i64 (IE.x (a9 i)), CV.int IntKind.i64 (IE.x (a10 i)), CV.int IntKind.i64 (IE.x (a11 i)), CV.int IntKind.i64 (IE.x (a12 i))]) (0 + i)], R := AG.R { v := { i := [], b := [], t := [] }, sh := [], R := [] } ++ [1] }) ++ [p0], b := AW.b (AG.v { v := { i := AW.i (AG.v { v := { i := [], b := [], t := [] }, sh := [], R := [] }), b := AW.b (AG.v { v := { i := [], b := [], t := [] }, sh := [], R := [] }), t := AW.t (AG.v { v := { i := [], b := [], t := [] }, sh := [], R := [] }) ++ [tabOf a8 fun i => (fun i => [CV.int IntKind.i64 (IE.x (a9 i)), CV.int IntKind.i64 (IE.x (a10 i)), CV.int IntKind.i64 (IE.x (a11 i)), CV.int IntKind.i64 (IE.x (a12 i))]) (0 + i)] }, sh := AG.sh { v := { i := [], b := [], t := [] }, sh := [], R := [] } ++ [decide (0 + a8 ≤ a8), ShapeOk [some IntKind.i64, some IntKind.i64, some IntKind.i64, some IntKind.i64] (tabOf a8 fun i => (fun i => [CV.int IntKind.i64 (IE.x (a9 i)), CV.int IntKind.i64 (IE.x (a10 i)), CV.int IntKind.i64 (IE.x (a11 i)), CV.int IntKind.i64 (IE.x (a12 i))]) (0 + i)) fun i => (fun i => [CV.int IntKind.i64 (IE.x (a9 i)), CV.int IntKind.i64 (IE.x (a10 i)), CV.int IntKind.i64 (IE.x (a11 i)), CV.int IntKind.i64 (IE.x (a12 i))]) (0 + i)], R := AG.R { v := { i := [], b := [], t := [] }, sh := [], R := [] } ++ [1] }), t := AW.t (AG.v { v := { i := AW.i (AG.v { v := { i := [], b := [], t := [] }, sh := [], R := [] }), b := AW.b (AG.v { v := { i := [], b := [], t := [] }, sh := [], R := [] }), t := AW.t (AG.v { v := { i := [], b := [], t := [] }, sh := [], R := [] }) ++ [tabOf a8 fun i => (fun i => [CV.int IntKind.i64 (IE.x (a9 i)), CV.int IntKind.i64 (IE.x (a10 i)), CV.int IntKind.i64 (IE.x (a11 i)), CV.int IntKind.i64 (IE.x (a12 i))]) (0 + i)] }, sh := AG.sh { v := { i := [], b := [], t := [] }, sh := [], R := [] } ++ [decide (0 + a8 ≤ a8), ShapeOk [some IntKind.i64, some IntKind.i64, some IntKind.i64, some IntKind.i64] (tabOf a8 fun i => (fun i => [CV.int IntKind.i64 (IE.x (a9 i)), CV.int IntKind.i64 (IE.x (a10 i)), CV.int IntKind.i64 (IE.x (a11 i)), CV.int IntKind.i64 (IE.x (a12 i))]) (0 + i)) fun i => (fun i => [CV.int IntKind.i64 (IE.x (a9 i)), CV.int IntKind.i64 (IE.x (a10 i)), CV.int IntKind.i64 (IE.x (a11 i)), CV.int IntKind.i64 (IE.x (a12 i))]) (0 + i)], R := AG.R { v := { i := [], b := [], t := [] }, sh := [], R := [] } ++ [1] }) }, sh := AG.sh { v := { i := AW.i (AG.v { v := { i := [], b := [], t := [] }, sh := [], R := [] }), b := AW.b (AG.v { v := { i := [], b := [], t := [] }, sh := [], R := [] }), t := AW.t (AG.v { v := { i := [], b := [], t := [] }, sh := [], R := [] }) ++ [tabOf a8 fun i => (fun i => [CV.int IntKind.i64 (IE.x (a9 i)), CV.int IntKind.i64 (IE.x (a10 i)), CV.int IntKind.i64 (IE.x (a11 i)), CV.int IntKind.i64 (IE.x (a12 i))]) (0 + i)] }, sh := AG.sh { v := { i := [], b := [], t := [] }, sh := [], R := [] } ++ [decide (0 + a8 ≤ a8), ShapeOk [some IntKind.i64, some IntKind.i64, some IntKind.i64, some IntKind.i64] (tabOf a8 fun i => (fun i => [CV.int IntKind.i64 (IE.x (a9 i)), CV.int IntKind.i64 (IE.x (a10 i)), CV.int IntKind.i64 (IE.x (a11 i)), CV.int IntKind.i64 (IE.x (a12 i))]) (0 + i)) fun i => (fun i => [CV.int IntKind.i64 (IE.x (a9 i)), CV.int IntKind.i64 (IE.x (a10 i)), CV.int IntKind.i64 (IE.x (a11 i)), CV.int IntKind.i64 (IE.x (a12 i))]) (0 + i)], R := AG.R { v := { i := [], b := [], t := [] }, sh := [], R := [] } ++ [1] }, R := AG.R { v := { i := AW.i (AG.v { v := { i := [], b := [], t := [] }, sh := [], R := [] }), b := AW.b (AG.v { v := { i := [], b := [], t := [] }, sh := [], R := [] }), t := AW.t (AG.v { v := { i := [], b := [], t := [] }, sh := [], R := [] }) ++ [tabOf a8 fun i => (fun i => [CV.int IntKind.i64 (IE.x (a9 i)), CV.int IntKind.i64 (IE.x (a10 i)), CV.int IntKind.i64 (IE.x (a11 i)), CV.int IntKind.i64 (IE.x (a12 i))]) (0 + i)] }, sh := AG.sh { v := { i := [], b := [], t := [] }, sh := [], R := [] } ++ [decide (0 + a8 ≤ a8), ShapeOk [some IntKind.i64, some IntKind.i64, some IntKind.i64, some IntKind.i64] (tabOf a8 fun i => (fun i => [CV.int IntKind.i64 (IE.x (a9 i)), CV.int IntKind.i64 (IE.x (a10 i)), CV.int IntKind.i64 (IE.x (a11 i)), CV.int IntKind.i64 (IE.x (a12 i))]) (0 + i)) fun i => (fun i => [CV.int IntKind.i64 (IE.x (a9 i)), CV.int IntKind.i64 (IE.x (a10 i)), CV.int IntKind.i64 (IE.x (a11 i)), CV.int IntKind.i64 (IE.x (a12 i))]) (0 + i)], R := AG.R { v := { i := [], b := [], t := [] }, sh := [], R := [] } ++ [1] } }))))))))) [2, 3, 4, 5])))))))))))
   (.leaf (.done (p1, p2) []))

noncomputable def rdtA (a0 : Bool) (a1 : Int) (a2 : Int) (a3 : Int) (a4 : Int) (a5 : Nat) (a6 : Nat → Int) (a7 : Nat → Int) (a8 : Nat) (a9 : Nat → Int) (a10 : Nat → Int) (a11 : Nat → Int) (a12 : Nat → Int) (a13 : Int) (a14 : Int) : AF rdtN rdtR where
  code := rdtCode
  base := 2
  nt := 66
  m := 400
  un := []
  W := []
  h0 := [(0, ⟨.arg a5 2 (fun i => [.int .i64 (.x (a6 i)), .int .i64 (.x (a7 i))]) (fun _ => ⟨rfl, rfl⟩), 2, true, none⟩), (1, ⟨.arg a8 4 (fun i => [.int .i64 (.x (a9 i)), .int .i64 (.x (a10 i)), .int .i64 (.x (a11 i)), .int .i64 (.x (a12 i))]) (fun _ => ⟨rfl, rfl⟩), 4, true, none⟩)]
  args := [.agg [.bool (.x a0), .int .i64 (.x a1), .int .i64 (.x a2), .int .i64 (.x a3), .int .i64 (.x a4), .sla 0 2 0 a5], .sla 1 4 0 a8, .int .i64 (.x a13), .int .i64 (.x a14)]
  res := (Try.f24).results.toList
  path := fun a => match a with
   | .n0 => [1, 1, 0, 1, 0]
   | .n1 p0 p1 p2 p3 p4 => [1, 1, 0, 1, 0]
  pd := fun a => match a with
   | .n0 => ⟨[(1, .sla 1 4 0 a8), (3, .int .i64 (.x a14)), (4, .ptr (some (2, 0))), (8, .ptr (some (3, 0))), (9, .ptr (some (4, 0))), (10, .ptr (some (5, 0))), (11, .int .i64 (.x a13))], [(2, ⟨.lit [.bool (.x a0), .int .i64 (.x a1), .int .i64 (.x a2), .int .i64 (.x a3), .int .i64 (.x a4), .sla 0 2 0 a5], 0, true, none⟩), (3, ⟨.lit [.int .i64 (.x 0), .int .i64 (.x 0)], 0, true, none⟩), (4, ⟨.lit [.int .i64 (.x (-1152921504606846976)), .int .i64 (.x 1152921504606846976)], 0, true, none⟩), (5, ⟨.lit [.int .i64 (.x 0), .int .i64 (.x 0)], 0, true, none⟩)], 6, []⟩
   | .n1 p0 p1 p2 p3 p4 => ⟨[(1, .sla 1 4 0 a8), (3, .int .i64 (.x a14)), (4, .ptr (some (2, 0))), (8, .ptr (some (3, 0))), (9, .ptr (some (4, 0))), (10, .ptr (some (5, 0))), (11, .int .i64 (.x p0)), (23, .sla 1 4 0 a8)], [(2, ⟨.lit [.bool (.x a0), .int .i64 (.x a1), .int .i64 (.x a2), .int .i64 (.x a3), .int .i64 (.x a4), .sla 0 2 0 a5], 0, true, none⟩), (3, ⟨.lit [.int .i64 (.x 0), .int .i64 (.x 0)], 0, true, none⟩), (4, ⟨.lit [.int .i64 (.x p1), .int .i64 (.x p2)], 0, true, none⟩), (5, ⟨.lit [.int .i64 (.x p3), .int .i64 (.x p4)], 0, true, none⟩)], 6, []⟩
  D0 := rdtD0 a0 a1 a2 a3 a4 a5 a6 a7 a8 a9 a10 a11 a12 a13 a14
  D := rdtD a0 a1 a2 a3 a4 a5 a6 a7 a8 a9 a10 a11 a12 a13 a14
  rc := (fun v => .agg [.int .i64 (.x v.1), .int .i64 (.x v.2)])
  rh := (fun v => [])
  rn := (fun v => 2)
  rx := (fun v => [])
  rgo := (fun _ => none)


theorem rdtstart (a0 : Bool) (a1 : Int) (a2 : Int) (a3 : Int) (a4 : Int) (a5 : Nat) (a6 : Nat → Int) (a7 : Nat → Int) (a8 : Nat) (a9 : Nat → Int) (a10 : Nat → Int) (a11 : Nat → Int) (a12 : Nat → Int) (a13 : Int) (a14 : Int) : AF.edgeOk (rdtA a0 a1 a2 a3 a4 a5 a6 a7 a8 a9 a10 a11 a12 a13 a14) (ctxOf Try.prog memo0) (rdtD0 a0 a1 a2 a3 a4 a5 a6 a7 a8 a9 a10 a11 a12 a13 a14) (AF.run0 (rdtA a0 a1 a2 a3 a4 a5 a6 a7 a8 a9 a10 a11 a12 a13 a14) (ctxOf Try.prog (memoS 70 rofP rofF rofW rofH 1 (memoS 69 rdoP rdoF rdoW rdoH 1 memo0)))) := by unfold AF.edgeOk; kernel_rfl

theorem rdtnode0 (a0 : Bool) (a1 : Int) (a2 : Int) (a3 : Int) (a4 : Int) (a5 : Nat) (a6 : Nat → Int) (a7 : Nat → Int) (a8 : Nat) (a9 : Nat → Int) (a10 : Nat → Int) (a11 : Nat → Int) (a12 : Nat → Int) (a13 : Int) (a14 : Int) : AF.edgeOk (rdtA a0 a1 a2 a3 a4 a5 a6 a7 a8 a9 a10 a11 a12 a13 a14) (ctxOf Try.prog memo0) (rdtD a0 a1 a2 a3 a4 a5 a6 a7 a8 a9 a10 a11 a12 a13 a14 (.n0)) (AF.runN (rdtA a0 a1 a2 a3 a4 a5 a6 a7 a8 a9 a10 a11 a12 a13 a14) (ctxOf Try.prog (memoS 70 rofP rofF rofW rofH 1 (memoS 69 rdoP rdoF rdoW rdoH 1 memo0))) (.n0)) := by unfold AF.edgeOk; kernel_rfl

theorem rdtnode1 (a0 : Bool) (a1 : Int) (a2 : Int) (a3 : Int) (a4 : Int) (a5 : Nat) (a6 : Nat → Int) (a7 : Nat → Int) (a8 : Nat) (a9 : Nat → Int) (a10 : Nat → Int) (a11 : Nat → Int) (a12 : Nat → Int) (a13 : Int) (a14 : Int) (p0 : Int) (p1 : Int) (p2 : Int) (p3 : Int) (p4 : Int) : AF.edgeOk (rdtA a0 a1 a2 a3 a4 a5 a6 a7 a8 a9 a10 a11 a12 a13 a14) (ctxOf Try.prog memo0) (rdtD a0 a1 a2 a3 a4 a5 a6 a7 a8 a9 a10 a11 a12 a13 a14 (.n1 p0 p1 p2 p3 p4)) (AF.runN (rdtA a0 a1 a2 a3 a4 a5 a6 a7 a8 a9 a10 a11 a12 a13 a14) (ctxOf Try.prog (memoS 70 rofP rofF rofW rofH 1 (memoS 69 rdoP rdoF rdoW rdoH 1 memo0))) (.n1 p0 p1 p2 p3 p4)) := by unfold AF.edgeOk; kernel_rfl

theorem rdtok (a0 : Bool) (a1 : Int) (a2 : Int) (a3 : Int) (a4 : Int) (a5 : Nat) (a6 : Nat → Int) (a7 : Nat → Int) (a8 : Nat) (a9 : Nat → Int) (a10 : Nat → Int) (a11 : Nat → Int) (a12 : Nat → Int) (a13 : Int) (a14 : Int) : (rdtA a0 a1 a2 a3 a4 a5 a6 a7 a8 a9 a10 a11 a12 a13 a14).Ok Try.prog (ctxOf Try.prog (memoS 70 rofP rofF rofW rofH 1 (memoS 69 rdoP rdoF rdoW rdoH 1 memo0))) where
  regs := by kernel_rfl
  h0 := by kernel_rfl
  start := rdtstart a0 a1 a2 a3 a4 a5 a6 a7 a8 a9 a10 a11 a12 a13 a14
  node := fun a _ => match a with
   | .n0 => rdtnode0 a0 a1 a2 a3 a4 a5 a6 a7 a8 a9 a10 a11 a12 a13 a14
   | .n1 p0 p1 p2 p3 p4 => rdtnode1 a0 a1 a2 a3 a4 a5 a6 a7 a8 a9 a10 a11 a12 a13 a14 p0 p1 p2 p3 p4
  pd := fun a => match a with
   | .n0 => ⟨(fa_cons rfl (fa_cons rfl (fa_cons rfl (fa_cons rfl (fa_cons rfl (fa_cons rfl (fa_cons rfl fa_nil))))))), (fa_cons ⟨.inl (Nat.le_of_ble_eq_true rfl), rfl, rfl⟩ (fa_cons ⟨.inl (Nat.le_of_ble_eq_true rfl), rfl, rfl⟩ (fa_cons ⟨.inl (Nat.le_of_ble_eq_true rfl), rfl, rfl⟩ (fa_cons ⟨.inl (Nat.le_of_ble_eq_true rfl), rfl, rfl⟩ fa_nil)))), fa_nil, rfl⟩
   | .n1 p0 p1 p2 p3 p4 => ⟨(fa_cons rfl (fa_cons rfl (fa_cons rfl (fa_cons rfl (fa_cons rfl (fa_cons rfl (fa_cons rfl (fa_cons rfl fa_nil)))))))), (fa_cons ⟨.inl (Nat.le_of_ble_eq_true rfl), rfl, rfl⟩ (fa_cons ⟨.inl (Nat.le_of_ble_eq_true rfl), rfl, rfl⟩ (fa_cons ⟨.inl (Nat.le_of_ble_eq_true rfl), rfl, rfl⟩ (fa_cons ⟨.inl (Nat.le_of_ble_eq_true rfl), rfl, rfl⟩ fa_nil)))), fa_nil, rfl⟩
  le := fun a => match a with
   | .n0 => Nat.le_of_ble_eq_true rfl
   | .n1 p0 p1 p2 p3 p4 => Nat.le_of_ble_eq_true rfl
  rd := fun v => ⟨⟨fa_nil, fa_nil, fa_nil, rfl⟩, rfl⟩
  wb := rfl


theorem rdthR {ρ : Env} (a0 : Bool) (a1 : Int) (a2 : Int) (a3 : Int) (a4 : Int) (a5 : Nat) (a6 : Nat → Int) (a7 : Nat → Int) (a8 : Nat) (a9 : Nat → Int) (a10 : Nat → Int) (a11 : Nat → Int) (a12 : Nat → Int) (a13 : Int) (a14 : Int) (hM : MemoOk Try.prog (ctxOf Try.prog (memoS 70 rofP rofF rofW rofH 1 (memoS 69 rdoP rdoF rdoW rdoH 1 memo0))) ρ) : ∀ X a q n D, FxOk ρ X → X.base = (rdtA a0 a1 a2 a3 a4 a5 a6 a7 a8 a9 a10 a11 a12 a13 a14).base → X.nt = (rdtA a0 a1 a2 a3 a4 a5 a6 a7 a8 a9 a10 a11 a12 a13 a14).nt → X.W = (rdtA a0 a1 a2 a3 a4 a5 a6 a7 a8 a9 a10 a11 a12 a13 a14).W → (rdtA a0 a1 a2 a3 a4 a5 a6 a7 a8 a9 a10 a11 a12 a13 a14).rgo a = some q → q n = some D → (rdtA a0 a1 a2 a3 a4 a5 a6 a7 a8 a9 a10 a11 a12 a13 a14).RangeOk Try.prog ρ X a D := AF.noRange rfl

theorem rdtctr {ρ : Env} (a0 : Bool) (a1 : Int) (a2 : Int) (a3 : Int) (a4 : Int) (a5 : Nat) (a6 : Nat → Int) (a7 : Nat → Int) (a8 : Nat) (a9 : Nat → Int) (a10 : Nat → Int) (a11 : Nat → Int) (a12 : Nat → Int) (a13 : Int) (a14 : Int) {n : Nat} {v : rdtR} (hM : MemoOk Try.prog (ctxOf Try.prog (memoS 70 rofP rofF rofW rofH 1 (memoS 69 rdoP rdoF rdoW rdoH 1 memo0))) ρ) (hv : (rdtA a0 a1 a2 a3 a4 a5 a6 a7 a8 a9 a10 a11 a12 a13 a14).run n = some v) :
    Ctr Try.prog ρ 24 (rdtA a0 a1 a2 a3 a4 a5 a6 a7 a8 a9 a10 a11 a12 a13 a14).args (rdtA a0 a1 a2 a3 a4 a5 a6 a7 a8 a9 a10 a11 a12 a13 a14).H0 (rdtA a0 a1 a2 a3 a4 a5 a6 a7 a8 a9 a10 a11 a12 a13 a14).base (rdtA a0 a1 a2 a3 a4 a5 a6 a7 a8 a9 a10 a11 a12 a13 a14).W ((rdtA a0 a1 a2 a3 a4 a5 a6 a7 a8 a9 a10 a11 a12 a13 a14).rc v) (putH (rdtA a0 a1 a2 a3 a4 a5 a6 a7 a8 a9 a10 a11 a12 a13 a14).H0 ((rdtA a0 a1 a2 a3 a4 a5 a6 a7 a8 a9 a10 a11 a12 a13 a14).rh v ++ (rdtA a0 a1 a2 a3 a4 a5 a6 a7 a8 a9 a10 a11 a12 a13 a14).rx v)) ((rdtA a0 a1 a2 a3 a4 a5 a6 a7 a8 a9 a10 a11 a12 a13 a14).rn v) :=
  AF.ctr try_ok hM (rdtok a0 a1 a2 a3 a4 a5 a6 a7 a8 a9 a10 a11 a12 a13 a14) (fn := Try.f24) Try.func24 rfl rfl (Nat.le_of_ble_eq_true rfl) rfl (rdthR a0 a1 a2 a3 a4 a5 a6 a7 a8 a9 a10 a11 a12 a13 a14 hM) hv


theorem rdtmem {ρ : Env} : MemoOk Try.prog (ctxOf Try.prog (memoS 70 rofP rofF rofW rofH 1 (memoS 69 rdoP rdoF rdoW rdoH 1 memo0))) ρ := (memoS_ok (rofknown rofmem) (memoS_ok (rdoknown rdomem) memo0_ok))


abbrev rdtP : List AQ := [.agg [.bool, .int .i64, .int .i64, .int .i64, .int .i64, .rows [some .i64, some .i64]], .rows [some .i64, some .i64, some .i64, some .i64], .int .i64, .int .i64]

noncomputable def rdtF (v : AW) : AF rdtN rdtR := rdtA (v.b.getD 0 false) (v.i.getD 0 0) (v.i.getD 1 0) (v.i.getD 2 0) (v.i.getD 3 0) (v.t.getD 0 .none).n ((v.t.getD 0 .none).c 0) ((v.t.getD 0 .none).c 1) (v.t.getD 1 .none).n ((v.t.getD 1 .none).c 0) ((v.t.getD 1 .none).c 1) ((v.t.getD 1 .none).c 2) ((v.t.getD 1 .none).c 3) (v.i.getD 4 0) (v.i.getD 5 0)

noncomputable def rdtW : rdtR → CV := fun v => .agg [.int .i64 (.x v.1), .int .i64 (.x v.2)]
noncomputable def rdtH : rdtR → List (Nat × Blk) := fun v => []



instance : Inhabited rdtR := ⟨(0, 0)⟩
theorem rdtknown {ρ : Env} (hM : MemoOk Try.prog (ctxOf Try.prog (memoS 70 rofP rofF rofW rofH 1 (memoS 69 rdoP rdoF rdoW rdoH 1 memo0))) ρ) : KnownS Try.prog ρ 24 rdtP rdtF rdtW rdtH 2 where
  fn := ⟨Try.f24, Try.func24, rfl⟩
  le := Nat.le_of_ble_eq_true rfl
  full := fun r => rfl
  rg := fun r => rfl
  hg := fun r => fa_nil
  ctr := fun v n r h => rdtctr (v.b.getD 0 false) (v.i.getD 0 0) (v.i.getD 1 0) (v.i.getD 2 0) (v.i.getD 3 0) (v.t.getD 0 .none).n ((v.t.getD 0 .none).c 0) ((v.t.getD 0 .none).c 1) (v.t.getD 1 .none).n ((v.t.getD 1 .none).c 0) ((v.t.getD 1 .none).c 1) ((v.t.getD 1 .none).c 2) ((v.t.getD 1 .none).c 3) (v.i.getD 4 0) (v.i.getD 5 0) hM h

end Go.Proofs.Ythagjhadjpangaa.Cx

/- acmeref07.Wear and Targets: pieces one after another. -/
namespace Go.Proofs.Ythagjhadjpangaa.Cx
set_option linter.unusedVariables false
set_option linter.unusedSimpArgs false
set_option maxRecDepth 100000
set_option maxHeartbeats 4000000
open Go Go.RowKit

/-- A valid tool and valid orders. -/
structure JobOk (a1 a2 a3 a4 : Int) (a5 : Nat) (a6 a7 : Nat → Int) (a8 : Nat) (a9 a10 a11 a12 : Nat → Int) : Prop where
  tool : ToolOk a5 a6 a7 a1 a2 a3 a4
  few : a8 ≤ 40
  ord : ∀ i : Nat, i < a8 → OrdOk a5 (a9 i) (a10 i) (a11 i) (a12 i)

/-- What the piece x wears, at an end of the wears. -/
def gW (w st pc : Nat → Int) (m : Nat) (x : Int) : Int := w (st (ordK pc m x)).toNat
/-- The least, the greatest target of the piece behind j others. -/
def tlP (b : Bool) (s1 c1 : Int) (w1 w2 st pc zl : Nat → Int) (m : Nat) (f : Int) (j : Nat) : Int := zl (ordK pc m (f + j)) - s1 - gL b (WSum (gW w1 st pc m) f j) (WSum (gW w2 st pc m) f j) - c1
def thP (b : Bool) (s2 c2 : Int) (w1 w2 st pc zh : Nat → Int) (m : Nat) (f : Int) (j : Nat) : Int := zh (ordK pc m (f + j)) - s2 - gH b (WSum (gW w1 st pc m) f j) (WSum (gW w2 st pc m) f j) - c2

section
variable {a0 : Bool} {a1 a2 a3 a4 : Int} {a5 : Nat} {a6 a7 : Nat → Int} {a8 : Nat} {a9 a10 a11 a12 : Nat → Int} {a13 a14 : Int}
theorem JobOk.pc (h : JobOk a1 a2 a3 a4 a5 a6 a7 a8 a9 a10 a11 a12) : ∀ i : Nat, i < a8 → 1 ≤ a9 i ∧ a9 i ≤ 10000 := fun i hi => ⟨(h.ord i hi).1.1, (h.ord i hi).1.2.1⟩
theorem JobOk.at' (h : JobOk a1 a2 a3 a4 a5 a6 a7 a8 a9 a10 a11 a12) {x : Int} (h0 : 0 ≤ x) (h1 : x < PS a9 a8) : ordK a9 a8 x < a8 ∧ (0 ≤ a10 (ordK a9 a8 x) ∧ a10 (ordK a9 a8 x) < a5) ∧ (0 ≤ a11 (ordK a9 a8 x) ∧ a11 (ordK a9 a8 x) ≤ a12 (ordK a9 a8 x) ∧ a12 (ordK a9 a8 x) ≤ 10000000000) ∧ (0 ≤ gW a6 a10 a9 a8 x ∧ gW a6 a10 a9 a8 x ≤ gW a7 a10 a9 a8 x ∧ gW a7 a10 a9 a8 x ≤ 100000) := by
  obtain ⟨k1, k2, k3⟩ := ordK_spec (pc := a9) a8 h0 h1
  obtain ⟨⟨o1, o2, o3⟩, o4⟩ := h.ord _ k1
  have := h.tool.2.1 (a10 (ordK a9 a8 x)).toNat (by omega)
  exact ⟨k1, o4, o3, this⟩
theorem JobOk.rdo (h : JobOk a1 a2 a3 a4 a5 a6 a7 a8 a9 a10 a11 a12) {x : Int} (h0 : 0 ≤ x) (h1 : x < PS a9 a8) : AF.fin (rdoA a8 a9 a10 a11 a12 x) = true ∧ AF.val (rdoA a8 a9 a10 a11 a12 x) = (a9 (ordK a9 a8 x), a10 (ordK a9 a8 x), a11 (ordK a9 a8 x), a12 (ordK a9 a8 x)) := by
  obtain ⟨f, k, k1, k2, k3, k4⟩ := rdo_val (a0 := a8) (a1 := a9) (a2 := a10) (a3 := a11) (a4 := a12) h.few h.pc h0 h1
  rw [ordK_uniq h.pc k1 k2 k3]
  exact ⟨f, k4⟩
theorem JobOk.wsum (h : JobOk a1 a2 a3 a4 a5 a6 a7 a8 a9 a10 a11 a12) {f : Int} {j : Nat} (h0 : 0 ≤ f) (h1 : f + j ≤ PS a9 a8) : (0 ≤ WSum (gW a6 a10 a9 a8) f j ∧ WSum (gW a6 a10 a9 a8) f j ≤ 40000000000) ∧ (0 ≤ WSum (gW a7 a10 a9 a8) f j ∧ WSum (gW a7 a10 a9 a8) f j ≤ 40000000000) ∧ PS a9 a8 ≤ 400000 := by
  have r := PS_rng h.pc a8 (Nat.le_refl _)
  have hf := h.few
  have g : ∀ i : Nat, i < j → 0 ≤ gW a6 a10 a9 a8 (f + i) ∧ gW a6 a10 a9 a8 (f + i) ≤ gW a7 a10 a9 a8 (f + i) ∧ gW a7 a10 a9 a8 (f + i) ≤ 100000 := fun i hi => (h.at' (x := f + i) (by omega) (by omega)).2.2.2
  have s1 := WSum_rng (g := gW a6 a10 a9 a8) (f := f) j (fun i hi => by have := g i hi; omega)
  have s2 := WSum_rng (g := gW a7 a10 a9 a8) (f := f) j (fun i hi => by have := g i hi; omega)
  omega

theorem rdw_val (h : JobOk a1 a2 a3 a4 a5 a6 a7 a8 a9 a10 a11 a12) (h0 : 0 ≤ a13) (h1 : a13 ≤ a14) (h2 : a14 ≤ PS a9 a8) : AF.fin (rdwA a0 a1 a2 a3 a4 a5 a6 a7 a8 a9 a10 a11 a12 a13 a14) = true ∧ AF.val (rdwA a0 a1 a2 a3 a4 a5 a6 a7 a8 a9 a10 a11 a12 a13 a14) = (WSum (gW a6 a10 a9 a8) a13 (a14 - a13).toNat, WSum (gW a7 a10 a9 a8) a13 (a14 - a13).toNat) := by
  refine AF.val_sat (E := fun v => v = (WSum (gW a6 a10 a9 a8) a13 (a14 - a13).toNat, WSum (gW a7 a10 a9 a8) a13 (a14 - a13).toNat))
    (Inv := fun b => match b with | .n0 => True | .n1 p0 p1 p2 p3 p4 p5 p6 => a13 ≤ p0 ∧ p0 ≤ a14 ∧ p5 = WSum (gW a6 a10 a9 a8) a13 (p0 - a13).toNat ∧ p6 = WSum (gW a7 a10 a9 a8) a13 (p0 - a13).toNat)
    (fun b => match b with | .n0 => (a14 - a13).toNat + 1 | .n1 p0 p1 p2 p3 p4 p5 p6 => (a14 - p0).toNat) (fun _ => rfl) (fun a hI => ?_) ?_
  · have step : ∀ x, a13 ≤ x → x < a14 → ∀ y, y = x + 1 → WSum (gW a6 a10 a9 a8) a13 (y - a13).toNat = WSum (gW a6 a10 a9 a8) a13 (x - a13).toNat + gW a6 a10 a9 a8 x ∧ WSum (gW a7 a10 a9 a8) a13 (y - a13).toNat = WSum (gW a7 a10 a9 a8) a13 (x - a13).toNat + gW a7 a10 a9 a8 x := fun x g0 g1 y hy => by
      rw [show (y - a13).toNat = (x - a13).toNat + 1 by omega, WSum, WSum, show a13 + ((x - a13).toNat : Nat) = x by omega]
      exact ⟨rfl, rfl⟩
    cases a with
    | n0 =>
      show DD.sat _ _ (rdwD a0 a1 a2 a3 a4 a5 a6 a7 a8 a9 a10 a11 a12 a13 a14 .n0)
      unfold rdwD
      simp only [DD.sat, Nat.zero_add, cmLss, cmLssF, decide_eq_true_eq]
      refine ⟨fun hp => ?_, fun hp => ?_⟩
      · have o := h.rdo (x := a13) h0 (by omega)
        have t := h.at' (x := a13) h0 (by omega)
        have o2 : AF.val (rdoA a8 (fun i => a9 i) (fun i => a10 i) (fun i => a11 i) (fun i => a12 i) a13) = _ := o.2
        have o3 : AF.val (rdoF { i := [] ++ [a13], b := [], t := [] ++ [tabOf a8 fun i => [CV.int IntKind.i64 (IE.x (a9 i)), CV.int IntKind.i64 (IE.x (a10 i)), CV.int IntKind.i64 (IE.x (a11 i)), CV.int IntKind.i64 (IE.x (a12 i))]] }) = _ := o.2
        have b := (h.wsum (f := a13) (j := 0) h0 (by omega)).2.2
        simp only [o2, o3]
        refine ⟨Nat.le_refl _, shape_ok fun i _ => rfl, o.1, t.2.1.1, t.2.1.2, by omega, ?_⟩
        have s := step a13 (Int.le_refl _) hp _ rfl
        rw [show (a13 - a13).toNat = 0 by omega] at s
        unfold gW at s t
        rw [arAdd (a := a13) (by omega), arAdd (a := 0) (by omega), arAdd (a := 0) (by omega)]
        refine ⟨⟨by omega, by omega, ?_, ?_⟩, by omega⟩
        · exact s.1.symm
        · exact s.2.symm
      · rw [show (a14 - a13).toNat = 0 by omega]; rfl
    | n1 p0 p1 p2 p3 p4 p5 p6 =>
      obtain ⟨g0, g1, g2, g3⟩ := hI
      show DD.sat _ _ (rdwD a0 a1 a2 a3 a4 a5 a6 a7 a8 a9 a10 a11 a12 a13 a14 (.n1 p0 p1 p2 p3 p4 p5 p6))
      unfold rdwD
      simp only [DD.sat, Nat.zero_add, cmLss, cmLssF, decide_eq_true_eq]
      refine ⟨fun hp => ?_, fun hp => ?_⟩
      · have o := h.rdo (x := p0) (by omega) (by omega)
        have t := h.at' (x := p0) (by omega) (by omega)
        have o2 : AF.val (rdoA a8 (fun i => a9 i) (fun i => a10 i) (fun i => a11 i) (fun i => a12 i) p0) = _ := o.2
        have o3 : AF.val (rdoF { i := [] ++ [p0], b := [], t := [] ++ [tabOf a8 fun i => [CV.int IntKind.i64 (IE.x (a9 i)), CV.int IntKind.i64 (IE.x (a10 i)), CV.int IntKind.i64 (IE.x (a11 i)), CV.int IntKind.i64 (IE.x (a12 i))]] }) = _ := o.2
        have b := h.wsum (f := a13) (j := (p0 - a13).toNat) h0 (by omega)
        simp only [o2, o3]
        refine ⟨Nat.le_refl _, shape_ok fun i _ => rfl, o.1, t.2.1.1, t.2.1.2, by omega, ?_⟩
        have s := step p0 g0 hp _ rfl
        unfold gW at s t
        rw [arAdd (a := p0) (by omega), arAdd (a := p5) (by rw [g2]; unfold gW at b ⊢; omega), arAdd (a := p6) (by rw [g3]; unfold gW at b ⊢; omega)]
        refine ⟨⟨by omega, by omega, ?_, ?_⟩, by omega⟩
        · rw [g2]; exact s.1.symm
        · rw [g3]; exact s.2.symm
      · rw [g2, g3, show p0 = a14 by omega]
  · show True
    trivial
end
end Go.Proofs.Ythagjhadjpangaa.Cx

/- acmeref07.Targets: pieces one after another. -/
namespace Go.Proofs.Ythagjhadjpangaa.Cx
set_option linter.unusedVariables false
set_option linter.unusedSimpArgs false
set_option maxRecDepth 100000
set_option maxHeartbeats 4000000
open Go Go.RowKit

section
variable {a0 : Bool} {a1 a2 a3 a4 : Int} {a5 : Nat} {a6 a7 : Nat → Int} {a8 a9 : Int}
theorem rof_ok (h1 : -1000000 ≤ a1 ∧ a1 ≤ a2 ∧ a2 ≤ 1000000) (h2 : -1000000 ≤ a3 ∧ a3 ≤ a4 ∧ a4 ≤ 1000000) (h3 : 0 ≤ a8 ∧ a8 ≤ 40000000000) (h4 : 0 ≤ a9 ∧ a9 ≤ 40000000000) :
    AF.fin (rofA a0 a1 a2 a3 a4 a5 a6 a7 a8 a9) = true ∧ AF.val (rofA a0 a1 a2 a3 a4 a5 a6 a7 a8 a9) = (a1 + gL a0 a8 a9 + a3, a2 + gH a0 a8 a9 + a4) := by
  refine flat_val (E := fun r => r = (a1 + gL a0 a8 a9 + a3, a2 + gH a0 a8 a9 + a4)) (fun _ => rfl) ?_
  show DD.sat _ _ (rofD0 a0 a1 a2 a3 a4 a5 a6 a7 a8 a9)
  unfold rofD0
  simp only [DD.sat]
  rw [arSub (a := 0) (b := a9) (by omega), arSub (a := 0) (b := a8) (by omega), arAdd (a := a1) (b := 0 - a9) (by omega), arAdd (a := a2) (b := 0 - a8) (by omega), arAdd (b := a3) (by omega), arAdd (b := a4) (by omega), arAdd (a := a1) (b := a8) (by omega), arAdd (a := a2) (b := a9) (by omega), arAdd (b := a3) (by omega), arAdd (b := a4) (by omega)]
  refine ⟨?_, ?_⟩
  · rintro rfl
    show _ = (a1 + -a9 + a3, a2 + -a8 + a4)
    simp only [Prod.mk.injEq]; omega
  · rintro rfl
    rfl
end

section
variable {a0 : Bool} {a1 a2 a3 a4 : Int} {a5 : Nat} {a6 a7 : Nat → Int} {a8 : Nat} {a9 a10 a11 a12 : Nat → Int} {a13 a14 : Int}
theorem rdt_val (h : JobOk a1 a2 a3 a4 a5 a6 a7 a8 a9 a10 a11 a12) (h0 : 0 ≤ a13) (h1 : a13 ≤ a14) (h2 : a14 ≤ PS a9 a8) : AF.fin (rdtA a0 a1 a2 a3 a4 a5 a6 a7 a8 a9 a10 a11 a12 a13 a14) = true ∧ AF.val (rdtA a0 a1 a2 a3 a4 a5 a6 a7 a8 a9 a10 a11 a12 a13 a14) = (LoM (-1152921504606846976) (tlP a0 a1 a3 a6 a7 a10 a9 a11 a8 a13) (a14 - a13).toNat, HiM 1152921504606846976 (thP a0 a2 a4 a6 a7 a10 a9 a12 a8 a13) (a14 - a13).toNat) := by
  refine AF.val_sat (E := fun v => v = (LoM (-1152921504606846976) (tlP a0 a1 a3 a6 a7 a10 a9 a11 a8 a13) (a14 - a13).toNat, HiM 1152921504606846976 (thP a0 a2 a4 a6 a7 a10 a9 a12 a8 a13) (a14 - a13).toNat))
    (Inv := fun b => match b with | .n0 => True | .n1 p0 p1 p2 p3 p4 => a13 ≤ p0 ∧ p0 ≤ a14 ∧ p1 = LoM (-1152921504606846976) (tlP a0 a1 a3 a6 a7 a10 a9 a11 a8 a13) (p0 - a13).toNat ∧ p2 = HiM 1152921504606846976 (thP a0 a2 a4 a6 a7 a10 a9 a12 a8 a13) (p0 - a13).toNat ∧ p3 = (WSum (gW a6 a10 a9 a8) a13 (p0 - a13).toNat) ∧ p4 = (WSum (gW a7 a10 a9 a8) a13 (p0 - a13).toNat))
    (fun b => match b with | .n0 => (a14 - a13).toNat + 1 | .n1 p0 p1 p2 p3 p4 => (a14 - p0).toNat) (fun _ => rfl) (fun a hI => ?_) ?_
  · have step : ∀ x, a13 ≤ x → x < a14 → ∀ y, y = x + 1 → ((WSum (gW a6 a10 a9 a8) a13 (y - a13).toNat) = (WSum (gW a6 a10 a9 a8) a13 (x - a13).toNat) + gW a6 a10 a9 a8 x ∧ (WSum (gW a7 a10 a9 a8) a13 (y - a13).toNat) = (WSum (gW a7 a10 a9 a8) a13 (x - a13).toNat) + gW a7 a10 a9 a8 x) ∧
        LoM (-1152921504606846976) (tlP a0 a1 a3 a6 a7 a10 a9 a11 a8 a13) (y - a13).toNat = max (LoM (-1152921504606846976) (tlP a0 a1 a3 a6 a7 a10 a9 a11 a8 a13) (x - a13).toNat) (a11 (ordK a9 a8 x) - a1 - gL a0 (WSum (gW a6 a10 a9 a8) a13 (x - a13).toNat) (WSum (gW a7 a10 a9 a8) a13 (x - a13).toNat) - a3) ∧ HiM 1152921504606846976 (thP a0 a2 a4 a6 a7 a10 a9 a12 a8 a13) (y - a13).toNat = min (HiM 1152921504606846976 (thP a0 a2 a4 a6 a7 a10 a9 a12 a8 a13) (x - a13).toNat) (a12 (ordK a9 a8 x) - a2 - gH a0 (WSum (gW a6 a10 a9 a8) a13 (x - a13).toNat) (WSum (gW a7 a10 a9 a8) a13 (x - a13).toNat) - a4) := fun x g0 g1 y hy => by
      have e : a13 + ((x - a13).toNat : Nat) = x := by omega
      have e2 : (tlP a0 a1 a3 a6 a7 a10 a9 a11 a8 a13) (x - a13).toNat = a11 (ordK a9 a8 x) - a1 - gL a0 (WSum (gW a6 a10 a9 a8) a13 (x - a13).toNat) (WSum (gW a7 a10 a9 a8) a13 (x - a13).toNat) - a3 := by unfold tlP; rw [e]
      have e3 : (thP a0 a2 a4 a6 a7 a10 a9 a12 a8 a13) (x - a13).toNat = a12 (ordK a9 a8 x) - a2 - gH a0 (WSum (gW a6 a10 a9 a8) a13 (x - a13).toNat) (WSum (gW a7 a10 a9 a8) a13 (x - a13).toNat) - a4 := by unfold thP; rw [e]
      rw [show (y - a13).toNat = (x - a13).toNat + 1 by omega, WSum, WSum, e, LoM, HiM, e2, e3]
      exact ⟨⟨rfl, rfl⟩, rfl, rfl⟩
    cases a with
    | n0 =>
      show DD.sat _ _ (rdtD a0 a1 a2 a3 a4 a5 a6 a7 a8 a9 a10 a11 a12 a13 a14 .n0)
      unfold rdtD
      simp only [DD.sat, Nat.zero_add, cmLss, cmLssF, decide_eq_true_eq]
      refine ⟨fun hp => ?_, fun hp => ?_⟩
      · have z1 : (WSum (gW a6 a10 a9 a8) a13 (a13 - a13).toNat) = 0 := by rw [show (a13 - a13).toNat = 0 by omega]; rfl
        have z2 : (WSum (gW a7 a10 a9 a8) a13 (a13 - a13).toNat) = 0 := by rw [show (a13 - a13).toNat = 0 by omega]; rfl
        have z3 : LoM (-1152921504606846976) (tlP a0 a1 a3 a6 a7 a10 a9 a11 a8 a13) (a13 - a13).toNat = -1152921504606846976 := by rw [show (a13 - a13).toNat = 0 by omega]; rfl
        have z4 : HiM 1152921504606846976 (thP a0 a2 a4 a6 a7 a10 a9 a12 a8 a13) (a13 - a13).toNat = 1152921504606846976 := by rw [show (a13 - a13).toNat = 0 by omega]; rfl
        have o := h.rdo (x := a13) (by omega) (by omega)
        have t := h.at' (x := a13) (by omega) (by omega)
        have o2 : AF.val (rdoA a8 (fun i => a9 i) (fun i => a10 i) (fun i => a11 i) (fun i => a12 i) a13) = _ := o.2
        have o3 : AF.val (rdoF { i := [] ++ [a13], b := [], t := [] ++ [tabOf a8 fun i => [CV.int IntKind.i64 (IE.x (a9 i)), CV.int IntKind.i64 (IE.x (a10 i)), CV.int IntKind.i64 (IE.x (a11 i)), CV.int IntKind.i64 (IE.x (a12 i))]] }) = _ := o.2
        have b := h.wsum (f := a13) (j := (a13 - a13).toNat) h0 (by omega)
        obtain ⟨_, _, s1, s2⟩ := h.tool
        unfold VOk at s1 s2
        have f1 : AF.fin (rofA a0 a1 a2 a3 a4 a5 a6 a7 0 0) = true ∧ _ := rof_ok s1 s2 (by omega) (by omega)
        have f2 : AF.val (rofA a0 a1 a2 a3 a4 a5 (fun i => a6 i) (fun i => a7 i) 0 0) = _ := f1.2
        simp only [o2, o3, f2]
        refine ⟨Nat.le_refl _, shape_ok fun i _ => rfl, o.1, Nat.le_refl _, shape_ok fun i _ => rfl, f1.1, t.2.1.1, t.2.1.2, by omega, ?_⟩
        have s := step a13 (by omega) hp _ rfl
        have gl : -40000000000 ≤ gL a0 0 0 ∧ gL a0 0 0 ≤ 40000000000 := by unfold gL; cases a0 <;> simp only [cond_true, cond_false] <;> omega
        have gh : -40000000000 ≤ gH a0 0 0 ∧ gH a0 0 0 ≤ 40000000000 := by unfold gH; cases a0 <;> simp only [cond_true, cond_false] <;> omega
        rw [z1, z2, z3, z4] at s
        unfold gW at s t
        rw [arMx, arMn, arSub (a := a11 _) (by omega), arSub (a := a12 _) (by omega), arAdd (a := a13) (by omega), arAdd (a := 0) (by omega), arAdd (a := 0) (by omega)]
        refine ⟨⟨by omega, by omega, ?_, ?_, ?_, ?_⟩, by omega⟩
        · rw [s.2.1]; omega
        · rw [s.2.2]; omega
        · exact s.1.1.symm
        · exact s.1.2.symm
      · rw [show (a14 - a13).toNat = 0 by omega]; rfl
    | n1 p0 p1 p2 p3 p4 =>
      obtain ⟨g0, g1, g2, g3, g4, g5⟩ := hI
      show DD.sat _ _ (rdtD a0 a1 a2 a3 a4 a5 a6 a7 a8 a9 a10 a11 a12 a13 a14 (.n1 p0 p1 p2 p3 p4))
      unfold rdtD
      simp only [DD.sat, Nat.zero_add, cmLss, cmLssF, decide_eq_true_eq]
      refine ⟨fun hp => ?_, fun hp => ?_⟩
      · have b0 := h.wsum (f := a13) (j := (p0 - a13).toNat) h0 (by omega)
        rw [← g4, ← g5] at b0
        have o := h.rdo (x := p0) (by omega) (by omega)
        have t := h.at' (x := p0) (by omega) (by omega)
        have o2 : AF.val (rdoA a8 (fun i => a9 i) (fun i => a10 i) (fun i => a11 i) (fun i => a12 i) p0) = _ := o.2
        have o3 : AF.val (rdoF { i := [] ++ [p0], b := [], t := [] ++ [tabOf a8 fun i => [CV.int IntKind.i64 (IE.x (a9 i)), CV.int IntKind.i64 (IE.x (a10 i)), CV.int IntKind.i64 (IE.x (a11 i)), CV.int IntKind.i64 (IE.x (a12 i))]] }) = _ := o.2
        have b := h.wsum (f := a13) (j := (p0 - a13).toNat) h0 (by omega)
        obtain ⟨_, _, s1, s2⟩ := h.tool
        unfold VOk at s1 s2
        have f1 : AF.fin (rofA a0 a1 a2 a3 a4 a5 a6 a7 p3 p4) = true ∧ _ := rof_ok s1 s2 (by omega) (by omega)
        have f2 : AF.val (rofA a0 a1 a2 a3 a4 a5 (fun i => a6 i) (fun i => a7 i) p3 p4) = _ := f1.2
        simp only [o2, o3, f2]
        refine ⟨Nat.le_refl _, shape_ok fun i _ => rfl, o.1, Nat.le_refl _, shape_ok fun i _ => rfl, f1.1, t.2.1.1, t.2.1.2, by omega, ?_⟩
        have s := step p0 (by omega) hp _ rfl
        have gl : -40000000000 ≤ gL a0 p3 p4 ∧ gL a0 p3 p4 ≤ 40000000000 := by unfold gL; cases a0 <;> simp only [cond_true, cond_false] <;> omega
        have gh : -40000000000 ≤ gH a0 p3 p4 ∧ gH a0 p3 p4 ≤ 40000000000 := by unfold gH; cases a0 <;> simp only [cond_true, cond_false] <;> omega
        rw [← g2, ← g3, ← g4, ← g5] at s
        unfold gW at s t
        rw [arMx, arMn, arSub (a := a11 _) (by omega), arSub (a := a12 _) (by omega), arAdd (a := p0) (by omega), arAdd (a := p3) (by omega), arAdd (a := p4) (by omega)]
        refine ⟨⟨by omega, by omega, ?_, ?_, ?_, ?_⟩, by omega⟩
        · rw [s.2.1]; omega
        · rw [s.2.2]; omega
        · exact s.1.1.symm
        · exact s.1.2.symm
      · rw [g2, g3, show p0 = a14 by omega]
  · show True
    trivial
end
end Go.Proofs.Ythagjhadjpangaa.Cx

/- Package die: a part of an order, in plain Lean: what wears and narrows by the same for each piece. -/
namespace Go.Proofs.Ythagjhadjpangaa.Cx
set_option linter.unusedVariables false
set_option linter.unusedSimpArgs false
set_option maxHeartbeats 4000000
open Go Go.RowKit

/-- How many of the pieces from f to t lie before x. -/
def cN (f t x : Int) : Nat := (min x t - f).toNat
theorem part_split {f t q0 q1 : Int} (hf : f ≤ t) (h : q0 < q1) : (min q1 t - max q0 f > 0 → max q0 f = f + cN f t q0 ∧ (cN f t q1 : Int) = cN f t q0 + (min q1 t - max q0 f) ∧ min q1 t = f + cN f t q0 + (min q1 t - max q0 f)) ∧ (min q1 t - max q0 f ≤ 0 → cN f t q1 = cN f t q0) := by
  unfold cN; omega

section
variable {a0 : Bool} {a1 a2 a3 a4 : Int} {a5 : Nat} {a6 a7 : Nat → Int} {a8 : Nat} {a9 a10 a11 a12 : Nat → Int} {f : Int} {j n k : Nat}
theorem gL_lin {b : Bool} {w1 w2 c1 c2 i : Int} : gL b (w1 + i * c1) (w2 + i * c2) = gL b w1 w2 + i * gL b c1 c2 := by
  unfold gL
  cases b <;> simp only [cond_true, cond_false]
  rw [Int.mul_neg]; omega
theorem gH_lin {b : Bool} {w1 w2 c1 c2 i : Int} : gH b (w1 + i * c1) (w2 + i * c2) = gH b w1 w2 + i * gH b c1 c2 := by
  unfold gH
  cases b <;> simp only [cond_true, cond_false]
  rw [Int.mul_neg]; omega

/-- All of n pieces, behind j others, are of the order k. -/
theorem part_ord (h : JobOk a1 a2 a3 a4 a5 a6 a7 a8 a9 a10 a11 a12) (hk : k < a8) (h1 : PS a9 k ≤ f + j) (h2 : f + j + n ≤ PS a9 (k + 1)) : ∀ i : Nat, i < n → ordK a9 a8 (f + (j + i : Nat)) = k := fun i hi => ordK_uniq h.pc hk (by omega) (by omega)
theorem part_w (w : Nat → Int) (hk : ∀ i : Nat, i < n → ordK a9 a8 (f + (j + i : Nat)) = k) : ∀ i : Nat, i ≤ n → WSum (gW w a10 a9 a8) f (j + i) = WSum (gW w a10 a9 a8) f j + i * w (a10 k).toNat := fun i hi => WSum_const i (fun x hx => by unfold gW; rw [hk x (by omega)])
theorem part_tl (hk : ∀ i : Nat, i < n → ordK a9 a8 (f + (j + i : Nat)) = k) : ∀ i : Nat, i < n → tlP a0 a1 a3 a6 a7 a10 a9 a11 a8 f (j + i) = (a11 k - a1 - gL a0 (WSum (gW a6 a10 a9 a8) f j) (WSum (gW a7 a10 a9 a8) f j) - a3) + i * (-(gL a0 (a6 (a10 k).toNat) (a7 (a10 k).toNat))) := fun i hi => by
  unfold tlP
  rw [hk i hi, part_w a6 hk i (by omega), part_w a7 hk i (by omega), gL_lin, Int.mul_neg]
  omega
theorem part_th (hk : ∀ i : Nat, i < n → ordK a9 a8 (f + (j + i : Nat)) = k) : ∀ i : Nat, i < n → thP a0 a2 a4 a6 a7 a10 a9 a12 a8 f (j + i) = (a12 k - a2 - gH a0 (WSum (gW a6 a10 a9 a8) f j) (WSum (gW a7 a10 a9 a8) f j) - a4) + i * (-(gH a0 (a6 (a10 k).toNat) (a7 (a10 k).toNat))) := fun i hi => by
  unfold thP
  rw [hk i hi, part_w a6 hk i (by omega), part_w a7 hk i (by omega), gH_lin, Int.mul_neg]
  omega
/-- What is sure of the first h + 1 pieces of a part, in Lost's words. -/
theorem part_lo (t : Int) (hk : ∀ i : Nat, i < n → ordK a9 a8 (f + (j + i : Nat)) = k) {h : Nat} (hh : h < n) : LoM t (tlP a0 a1 a3 a6 a7 a10 a9 a11 a8 f) (j + (h + 1)) = max (max (LoM t (tlP a0 a1 a3 a6 a7 a10 a9 a11 a8 f) j) (a11 k - a1 - gL a0 (WSum (gW a6 a10 a9 a8) f j) (WSum (gW a7 a10 a9 a8) f j) - a3)) (a11 k - a1 - gL a0 (WSum (gW a6 a10 a9 a8) f j + h * a6 (a10 k).toNat) (WSum (gW a7 a10 a9 a8) f j + h * a7 (a10 k).toNat) - a3) := by
  rw [LoM_lin h (fun i hi => part_tl hk i (by omega)), gL_lin, Int.mul_neg]
  congr 1
  omega
theorem part_hi (t : Int) (hk : ∀ i : Nat, i < n → ordK a9 a8 (f + (j + i : Nat)) = k) {h : Nat} (hh : h < n) : HiM t (thP a0 a2 a4 a6 a7 a10 a9 a12 a8 f) (j + (h + 1)) = min (min (HiM t (thP a0 a2 a4 a6 a7 a10 a9 a12 a8 f) j) (a12 k - a2 - gH a0 (WSum (gW a6 a10 a9 a8) f j) (WSum (gW a7 a10 a9 a8) f j) - a4)) (a12 k - a2 - gH a0 (WSum (gW a6 a10 a9 a8) f j + h * a6 (a10 k).toNat) (WSum (gW a7 a10 a9 a8) f j + h * a7 (a10 k).toNat) - a4) := by
  rw [HiM_lin h (fun i hi => part_th hk i (by omega)), gH_lin, Int.mul_neg]
  congr 1
  omega
theorem part_lost {t1 t2 : Int} (hk : ∀ i : Nat, i < n → ordK a9 a8 (f + (j + i : Nat)) = k) {h : Nat} (hh : h < n) :
    Lost (LoM t1 (tlP a0 a1 a3 a6 a7 a10 a9 a11 a8 f) j) (HiM t2 (thP a0 a2 a4 a6 a7 a10 a9 a12 a8 f) j) a0 a1 a2 a3 a4 (a11 k) (a12 k) (a6 (a10 k).toNat) (a7 (a10 k).toNat) (WSum (gW a6 a10 a9 a8) f j) (WSum (gW a7 a10 a9 a8) f j) h ↔
      LoM t1 (tlP a0 a1 a3 a6 a7 a10 a9 a11 a8 f) (j + (h + 1)) > HiM t2 (thP a0 a2 a4 a6 a7 a10 a9 a12 a8 f) (j + (h + 1)) := by
  rw [part_lo t1 hk hh, part_hi t2 hk hh]
  exact Iff.rfl
end
end Go.Proofs.Ythagjhadjpangaa.Cx

/- Package die: (shop).reach in general. -/
namespace Go.Proofs.Ythagjhadjpangaa.Cx
set_option linter.unusedVariables false
set_option linter.unusedSimpArgs false
set_option maxRecDepth 100000
set_option maxHeartbeats 4000000
open Go Go.RowKit

/-- What reach yields: as far as targets are left. -/
def RchG (a0 : Bool) (a1 a2 a3 a4 : Int) (a5 : Nat) (a6 a7 : Nat → Int) (a8 : Nat) (a9 a10 a11 a12 : Nat → Int) (a13 a14 a15 a16 a17 : Int) (x y z : Int) : Prop :=
  ∃ J : Nat, (J : Int) ≤ a17 - a16 ∧ ((J : Int) < a17 - a16 → LoM a14 (tlP a0 a1 a3 a6 a7 a10 a9 a11 a8 a16) (J + 1) > HiM a15 (thP a0 a2 a4 a6 a7 a10 a9 a12 a8 a16) (J + 1)) ∧ (0 < J → LoM a14 (tlP a0 a1 a3 a6 a7 a10 a9 a11 a8 a16) (J) ≤ HiM a15 (thP a0 a2 a4 a6 a7 a10 a9 a12 a8 a16) (J)) ∧ x = LoM a14 (tlP a0 a1 a3 a6 a7 a10 a9 a11 a8 a16) (J) ∧ y = HiM a15 (thP a0 a2 a4 a6 a7 a10 a9 a12 a8 a16) (J) ∧ z = a16 + J
def RchS (a0 : Bool) (a1 a2 a3 a4 : Int) (a5 : Nat) (a6 a7 : Nat → Int) (a8 : Nat) (a9 a10 a11 a12 : Nat → Int) (a13 a14 a15 a16 a17 : Int) : drcs0R → Prop
  | .r0 x y _ _ => RchG a0 a1 a2 a3 a4 a5 a6 a7 a8 a9 a10 a11 a12 a13 a14 a15 a16 a17 x y a17
  | .r1 x y z _ _ => RchG a0 a1 a2 a3 a4 a5 a6 a7 a8 a9 a10 a11 a12 a13 a14 a15 a16 a17 x y z

section
variable {a0 : Bool} {a1 a2 a3 a4 : Int} {a5 : Nat} {a6 a7 : Nat → Int} {a8 : Nat} {a9 a10 a11 a12 : Nat → Int} {a13 a14 a15 a16 a17 : Int}
theorem drs_gen (h : JobOk a1 a2 a3 a4 a5 a6 a7 a8 a9 a10 a11 a12) (h0 : 0 ≤ a16) (h1 : a16 ≤ a17) (h2 : a17 ≤ PS a9 a8) : ∃ n v, AF.run (drcs0A a0 a1 a2 a3 a4 a5 a6 a7 a8 a9 a10 a11 a12 a13 a14 a15 a16 a17) n = some v ∧ RchS a0 a1 a2 a3 a4 a5 a6 a7 a8 a9 a10 a11 a12 a13 a14 a15 a16 a17 v := by
  obtain ⟨_, tw, s1, s2⟩ := h.tool
  unfold VOk at s1 s2
  have few := h.few
  have tot := (h.wsum (f := a16) (j := 0) h0 (by omega)).2.2
  refine AF.run_sat (E := RchS a0 a1 a2 a3 a4 a5 a6 a7 a8 a9 a10 a11 a12 a13 a14 a15 a16 a17) (Inv := fun b => match b with | .n0 q0 q1 q2 q3 q4 q5 => 0 ≤ q1 ∧ q1 ≤ a8 ∧ q0 = PS a9 q1.toNat ∧ q2 = LoM a14 (tlP a0 a1 a3 a6 a7 a10 a9 a11 a8 a16) (cN a16 a17 q0) ∧ q3 = HiM a15 (thP a0 a2 a4 a6 a7 a10 a9 a12 a8 a16) (cN a16 a17 q0) ∧ q4 = WSum (gW a6 a10 a9 a8) a16 (cN a16 a17 q0) ∧ q5 = WSum (gW a7 a10 a9 a8) a16 (cN a16 a17 q0) ∧ (0 < cN a16 a17 q0 → q2 ≤ q3))
    (fun b => match b with | .n0 q0 q1 q2 q3 q4 q5 => (a8 - q1).toNat) (fun b => rfl) (fun a hI => ?_) ?_
  · cases a with
    | n0 q0 q1 q2 q3 q4 q5 =>
      obtain ⟨g0, g1, e0, e2, e3, e4, e5, e6⟩ := hI
      have cb : (cN a16 a17 q0 : Int) ≤ a17 - a16 := by unfold cN; omega
      have b := h.wsum (f := a16) (j := cN a16 a17 q0) h0 (by omega)
      rw [← e4, ← e5] at b
      show DD.sat _ _ (drcs0D a0 a1 a2 a3 a4 a5 a6 a7 a8 a9 a10 a11 a12 a13 a14 a15 a16 a17 (.n0 q0 q1 q2 q3 q4 q5))
      unfold drcs0D
      have r0 := PS_rng h.pc q1.toNat (by omega)
      have ea : q1 < a8 → Ar.run .add .i64 q1 1 = q1 + 1 := fun h => arAdd (by omega)
      by_cases hq : q1 < a8
      · have pk := h.pc q1.toNat (by omega)
        obtain ⟨⟨_, _, z1, z2, z3⟩, st⟩ := h.ord q1.toNat (by omega)
        have nx : PS a9 (q1 + 1).toNat = q0 + a9 q1.toNat := by rw [show (q1 + 1).toNat = q1.toNat + 1 by omega, PS, e0]
        have nr := PS_mono h.pc (j := q1.toNat + 1) a8 (by omega) (Nat.le_refl _)
        rw [show q1.toNat + 1 = (q1 + 1).toNat by omega, nx] at nr
        obtain ⟨ps1, ps2⟩ := part_split (f := a16) (t := a17) (q0 := q0) (q1 := q0 + a9 q1.toNat) h1 (by omega)
        have f1 : Ar.run .add .i64 q0 (a9 q1.toNat) = q0 + a9 q1.toNat := arAdd (by omega)
        have f2 : Ar.run .sub .i64 (min (q0 + a9 q1.toNat) a17) (max q0 a16) = min (q0 + a9 q1.toNat) a17 - max q0 a16 := arSub (by omega)
        simp only [DD.sat, Nat.zero_add, cmLss, cmLssF, cmGtr, cmGtrF, decide_eq_true_eq, f1, arMn, arMx, f2, ea hq]
        refine ⟨fun _ => ⟨g0, hq, by omega, fun hn => ?_, fun hn => ?_⟩, fun hx => by omega⟩
        · obtain ⟨p1, p2, p3⟩ := ps1 hn
          have hnb : min (q0 + a9 q1.toNat) a17 - max q0 a16 ≤ 1000000 := by omega
          obtain ⟨n, hnn⟩ : ∃ n : Nat, (n : Int) = min (q0 + a9 q1.toNat) a17 - max q0 a16 := ⟨(min (q0 + a9 q1.toNat) a17 - max q0 a16).toNat, by omega⟩
          have hk := part_ord (f := a16) (j := cN a16 a17 q0) (n := n) h (k := q1.toNat) (by omega) (by omega) (by rw [show q1.toNat + 1 = (q1 + 1).toNat by omega, nx]; omega)
          rw [← hnn] at p2 p3 hn ⊢
          obtain ⟨sf, r, sr, r1, r2, r3, r4⟩ := dse_val (a0 := n) (a1 := q2) (a2 := q3) (a3 := a0) (a4 := a1) (a5 := a2) (a6 := a3) (a7 := a4) (a8 := a5) (a9 := a6) (a10 := a7) (a11 := a8) (a12 := a9) (a13 := a10) (a14 := a11) (a15 := a12) (a16 := a13) (a17 := a9 q1.toNat) (a18 := a10 q1.toNat) (a19 := a11 q1.toNat) (a20 := a12 q1.toNat) (a21 := max q0 a16) (a22 := min (q0 + a9 q1.toNat) a17) (a23 := q4) (a24 := q5) (by omega) tw st (by unfold BB; omega) (by unfold BB; omega) (by unfold BB; omega) (by unfold BB; omega) (by unfold BB; omega) (by unfold BB; omega) (by omega) (by omega)
          have sr' : AF.val (dseA n q2 q3 a0 a1 a2 a3 a4 a5 (fun i => a6 i) (fun i => a7 i) a8 (fun i => a9 i) (fun i => a10 i) (fun i => a11 i) (fun i => a12 i) a13 (a9 q1.toNat) (a10 q1.toNat) (a11 q1.toNat) (a12 q1.toNat) (max q0 a16) (min (q0 + a9 q1.toNat) a17) q4 q5) = r := sr
          simp only [sr']
          have t1 : AF.fin (dtgA a0 a1 a2 a3 a4 a5 a6 a7 a8 a9 a10 a11 a12 a13 (a11 q1.toNat) (a12 q1.toNat) q4 q5) = true ∧ _ := dtg_val (by unfold BB; omega) (by unfold BB; omega) (by unfold BB; omega) (by unfold BB; omega) (by unfold BB; omega) (by unfold BB; omega) (by unfold BB; omega) (by unfold BB; omega)
          have t2 : AF.fin (dwoA a0 a1 a2 a3 a4 a5 a6 a7 a8 a9 a10 a11 a12 a13 q4 q5 (a10 q1.toNat) r) = true ∧ _ := dwo_val tw st (by omega) (by omega) (by omega)
          have t1v : AF.val (dtgA a0 a1 a2 a3 a4 a5 (fun i => a6 i) (fun i => a7 i) a8 (fun i => a9 i) (fun i => a10 i) (fun i => a11 i) (fun i => a12 i) a13 (a11 q1.toNat) (a12 q1.toNat) q4 q5) = _ := t1.2
          have t2v : AF.val (dwoA a0 a1 a2 a3 a4 a5 (fun i => a6 i) (fun i => a7 i) a8 (fun i => a9 i) (fun i => a10 i) (fun i => a11 i) (fun i => a12 i) a13 q4 q5 (a10 q1.toNat) r) = _ := t2.2
          have jc : cN a16 a17 (q0 + a9 q1.toNat) = cN a16 a17 q0 + n := by omega
          have lost := fun (x : Nat) (hx : x < n) => part_lost (a0 := a0) (a1 := a1) (a2 := a2) (a3 := a3) (a4 := a4) (a6 := a6) (a7 := a7) (a10 := a10) (a11 := a11) (a12 := a12) (t1 := a14) (t2 := a15) hk hx
          rw [← e2, ← e3, ← e4, ← e5] at lost
          have wk : (0 ≤ a6 (a10 q1.toNat).toNat ∧ a6 (a10 q1.toNat).toNat ≤ a7 (a10 q1.toNat).toNat ∧ a7 (a10 q1.toNat).toNat ≤ 100000) := tw _ (by omega)
          refine ⟨Nat.le_refl _, shape_ok fun i _ => rfl, Nat.le_refl _, shape_ok fun i _ => rfl, sf, fun hr => ?_, fun hr => ?_⟩
          · obtain ⟨x, hx⟩ : ∃ x : Nat, (x : Int) = r - 1 := ⟨(r - 1).toNat, by omega⟩
            have t3 : AF.fin (dwoA a0 a1 a2 a3 a4 a5 a6 a7 a8 a9 a10 a11 a12 a13 q4 q5 (a10 q1.toNat) (r - 1)) = true ∧ _ := dwo_val tw st (by omega) (by omega) (by omega)
            have m1 := wear_bd (n := r - 1) (w := a6 (a10 q1.toNat).toNat) (by omega) (by omega)
            have m2 := wear_bd (n := r - 1) (w := a7 (a10 q1.toNat).toNat) (by omega) (by omega)
            have t4 : AF.fin (dtgA a0 a1 a2 a3 a4 a5 a6 a7 a8 a9 a10 a11 a12 a13 (a11 q1.toNat) (a12 q1.toNat) (q4 + (r - 1) * a6 (a10 q1.toNat).toNat) (q5 + (r - 1) * a7 (a10 q1.toNat).toNat)) = true ∧ _ := dtg_val (by unfold BB; omega) (by unfold BB; omega) (by unfold BB; omega) (by unfold BB; omega) (by unfold BB; omega) (by unfold BB; omega) (by unfold BB; omega) (by unfold BB; omega)
            have e7 : Ar.run .sub .i64 r 1 = r - 1 := arSub (by omega)
            have t3v : AF.val (dwoA a0 a1 a2 a3 a4 a5 (fun i => a6 i) (fun i => a7 i) a8 (fun i => a9 i) (fun i => a10 i) (fun i => a11 i) (fun i => a12 i) a13 q4 q5 (a10 q1.toNat) (r - 1)) = _ := t3.2
            have t4v : AF.val (dtgA a0 a1 a2 a3 a4 a5 (fun i => a6 i) (fun i => a7 i) a8 (fun i => a9 i) (fun i => a10 i) (fun i => a11 i) (fun i => a12 i) a13 (a11 q1.toNat) (a12 q1.toNat) (q4 + (r - 1) * a6 (a10 q1.toNat).toNat) (q5 + (r - 1) * a7 (a10 q1.toNat).toNat)) = _ := t4.2
            have lox := part_lo (a0 := a0) (a1 := a1) (a3 := a3) (a6 := a6) (a7 := a7) (a10 := a10) (a11 := a11) a14 hk (h := x) (by omega)
            have hix := part_hi (a0 := a0) (a2 := a2) (a4 := a4) (a6 := a6) (a7 := a7) (a10 := a10) (a12 := a12) a15 hk (h := x) (by omega)
            have nl := fun hl => r3 hr ((lost x (by omega)).2 hl |> fun q => by rw [← hx]; exact q)
            rw [← e2, ← e4, ← e5, hx] at lox
            rw [← e3, ← e4, ← e5, hx] at hix
            have nl2 := Int.not_lt.1 nl
            simp only [e7, t1v, t3v, t4v, t2v]
            rw [← lox, ← hix]
            refine ⟨Nat.le_refl _, shape_ok fun i _ => rfl, Nat.le_refl _, shape_ok fun i _ => rfl, t1.1, Nat.le_refl _, shape_ok fun i _ => rfl, Nat.le_refl _, shape_ok fun i _ => rfl, t3.1, Nat.le_refl _, shape_ok fun i _ => rfl, Nat.le_refl _, shape_ok fun i _ => rfl, t4.1, fun hrn => ?_, fun hrn => ⟨Nat.le_refl _, shape_ok fun i _ => rfl, Nat.le_refl _, shape_ok fun i _ => rfl, t2.1, ?_⟩⟩
            · refine ⟨cN a16 a17 q0 + (x + 1), by omega, fun _ => ?_, fun _ => nl2, rfl, rfl, ?_⟩
              · have := (lost (x + 1) (by omega)).1 (by
                  rw [show ((x + 1 : Nat) : Int) = r by omega]; exact r4 hrn)
                rw [show cN a16 a17 q0 + (x + 1) + 1 = cN a16 a17 q0 + (x + 1 + 1) by omega]
                exact this
              · rw [arAdd (by omega)]; omega
            · obtain rfl : r = n := by omega
              have xn : x + 1 = n := by omega
              rw [jc, ← xn]
              have w1 := part_w (a10 := a10) a6 hk n (Nat.le_refl _)
              have w2 := part_w (a10 := a10) a7 hk n (Nat.le_refl _)
              refine ⟨⟨by omega, by omega, nx.symm, rfl, rfl, ?_, ?_, fun _ => nl2⟩, by omega⟩
              · rw [xn, w1, ← e4]
              · rw [xn, w2, ← e5]
          · obtain rfl : r = 0 := by omega
            refine ⟨fun hrn => ⟨cN a16 a17 q0, by omega, fun _ => (lost 0 (by omega)).1 (r4 hrn), fun hj => by rw [← e2, ← e3]; exact e6 hj, e2, e3, ?_⟩, fun hrn => by omega⟩
            rw [arAdd (by omega)]; omega
        · rw [ps2 hn]
          exact ⟨⟨by omega, by omega, nx.symm, e2, e3, e4, e5, e6⟩, by omega⟩
      · simp only [DD.sat, cmLss, cmLssF]
        refine ⟨fun hx => by omega, fun _ => ⟨cN a16 a17 q0, cb, fun hx => ?_, fun hj => by rw [← e2, ← e3]; exact e6 hj, e2, e3, ?_⟩⟩
        · have : q1.toNat = a8 := by omega
          rw [this] at e0
          unfold cN at hx; omega
        · have : q1.toNat = a8 := by omega
          rw [this] at e0
          unfold cN; omega
  · have z : cN a16 a17 0 = 0 := by unfold cN; omega
    show 0 ≤ (0 : Int) ∧ (0 : Int) ≤ a8 ∧ _ ∧ _ ∧ _ ∧ _ ∧ _ ∧ _
    rw [z]
    exact ⟨by omega, by omega, rfl, rfl, rfl, rfl, rfl, fun h => by omega⟩
end
end Go.Proofs.Ythagjhadjpangaa.Cx

/- AUTOMATA BY HAND, WITH RANGES OVER FUNCTIONS: what a tree says where heads are ranges. -/
namespace Go.Proofs.Ythagjhadjpangaa.Cx
set_option linter.unusedVariables false
set_option linter.unusedSimpArgs false
open Go Go.RowKit

section
variable {N R : Type} {A : AF N R}

theorem DD.sat_evl {I : N → Prop} {E : R → Prop} : ∀ (d : DD (Lf N R)), d.sat I E → (∃ b r, d.eval = some (.next b r) ∧ I b) ∨ ∃ v r, d.eval = some (.done v r) ∧ E v
  | .leaf (.next b r), h => .inl ⟨b, r, rfl, h⟩
  | .leaf (.done v r), h => .inr ⟨v, r, rfl, h⟩
  | .ask c t f, h => by
    simp only [DD.eval]
    cases c with
    | true => exact DD.sat_evl t (h.1 rfl)
    | false => exact DD.sat_evl f (h.2 rfl)
  | .must c t, h => by
    simp only [DD.eval]
    obtain ⟨h1, h2⟩ := h
    subst h1
    exact DD.sat_evl t h2
  | .num x n t f, h => by
    simp only [DD.eval]
    cases hd : decide (x = n) with
    | true => exact DD.sat_evl t (h.1 hd)
    | false => exact DD.sat_evl f (h.2 hd)
  | .dead, h => h.elim

/-- Heads are loops, or ranges over functions: what a range's iterator comes to within some rounds is given. -/
theorem AF.run_satR (hM : A.Mono) {Inv : N → Prop} (μ : N → Nat) {E : R → Prop}
    (h : ∀ a, Inv a → (A.rgo a = none ∧ (A.D a).sat (fun b => Inv b ∧ μ b < μ a) E) ∨ ∃ q n D, A.rgo a = some q ∧ q n = some D ∧ DD.sat (fun b => Inv b ∧ μ b < μ a) E D)
    (h0 : A.D0.sat Inv E) : ∃ n v, A.run n = some v ∧ E v := by
  have key : ∀ k a, Inv a → μ a < k → ∃ n v, A.go n a = some v ∧ E v := by
    intro k
    induction k with
    | zero => intro a _ h; omega
    | succ k ih =>
      intro a hI hk
      rcases h a hI with ⟨hn, hs⟩ | ⟨q, n, D, hq, hD, hs⟩
      · rcases DD.sat_evl _ hs with ⟨b, r, he, hb, hl⟩ | ⟨v, r, he, hv⟩
        · obtain ⟨m, v, hm, hv⟩ := ih b hb (by omega)
          refine ⟨m + 1, v, ?_, hv⟩
          rw [AF.go, hn]
          simp only [he]
          exact hm
        · refine ⟨1, v, ?_, hv⟩
          rw [AF.go, hn]
          simp only [he]
      · rcases DD.sat_evl _ hs with ⟨b, r, he, hb, hl⟩ | ⟨v, r, he, hv⟩
        · obtain ⟨m, v, hm, hv⟩ := ih b hb (by omega)
          refine ⟨max n m + 1, v, ?_, hv⟩
          rw [AF.go, hq]
          simp only [hM a q n (max n m) D hq (Nat.le_max_left ..) hD, he]
          exact AF.go_mono hM (Nat.le_max_right ..) hm
        · refine ⟨n + 1, v, ?_, hv⟩
          rw [AF.go, hq]
          simp only [hD, he]
  rcases DD.sat_evl _ h0 with ⟨b, r, he, hb⟩ | ⟨v, r, he, hv⟩
  · obtain ⟨n, v, hn, hv⟩ := key _ b hb (Nat.lt_succ_self _)
    refine ⟨n, v, ?_, hv⟩
    unfold AF.run
    rw [he]
    exact hn
  · refine ⟨0, v, ?_, hv⟩
    unfold AF.run
    rw [he]

theorem AF.val_satR [Inhabited R] (hM : A.Mono) {Inv : N → Prop} (μ : N → Nat) {E : R → Prop}
    (h : ∀ a, Inv a → (A.rgo a = none ∧ (A.D a).sat (fun b => Inv b ∧ μ b < μ a) E) ∨ ∃ q n D, A.rgo a = some q ∧ q n = some D ∧ DD.sat (fun b => Inv b ∧ μ b < μ a) E D)
    (h0 : A.D0.sat Inv E) : A.fin = true ∧ E A.val := by
  obtain ⟨n, v, hn, hv⟩ := AF.run_satR hM μ h h0
  have k := AF.val_of hM hn
  exact ⟨k.1, by rw [k.2]; exact hv⟩

/-- A head that is a range over an automaton of its own. -/
theorem AF.mono_map (h : ∀ a, A.rgo a = none ∨ ∃ (N' R' : Type) (B : AF N' R') (f : R' → DD (Lf N R)), B.Mono ∧ A.rgo a = some (fun n => (B.run n).map f)) : A.Mono := by
  intro a q n m D hq hnm hD
  rcases h a with h | ⟨N', R', B, f, hB, h⟩
  · rw [h] at hq; cases hq
  · rw [h] at hq
    cases hq
    obtain ⟨v, hv, rfl⟩ := Option.map_eq_some_iff.1 hD
    show Option.map f (B.run m) = _
    rw [AF.run_mono hB hnm hv]
    rfl
end
end Go.Proofs.Ythagjhadjpangaa.Cx

/- acme/die.Wear as an automaton. Made by tools/cxauto.py. -/
namespace Go.Proofs.Ythagjhadjpangaa.Cx
set_option linter.unusedVariables false
set_option linter.unusedSimpArgs false
set_option maxRecDepth 100000
open Go Go.Proofs Go.RowKit

noncomputable abbrev dweCode : Code := funcCode Try.f18


noncomputable abbrev dwes0Code : Code := funcCode Try.f87


inductive dwes0N where
  | n0 (q0 : Int) (q1 : Int) (q2 : Int) (q3 : Int)

inductive dwes0R where
  | r0 (q0 : Int) (q1 : Int)

noncomputable def dwes0D0 (a0 : Bool) (a1 : Int) (a2 : Int) (a3 : Int) (a4 : Int) (a5 : Nat) (a6 : Nat → Int) (a7 : Nat → Int) (a8 : Nat) (a9 : Nat → Int) (a10 : Nat → Int) (a11 : Nat → Int) (a12 : Nat → Int) (a13 : Int) (a14 : Int) (p0 : Bool) (p1 : Int) (p2 : Int) (p3 : Int) (p4 : Int) (p5 : Nat) (p6 : Nat) (p7 : Int) : DD (Lf dwes0N dwes0R) :=
 .leaf (.next (.n0 0 0 0 0) [])

noncomputable def dwes0D (a0 : Bool) (a1 : Int) (a2 : Int) (a3 : Int) (a4 : Int) (a5 : Nat) (a6 : Nat → Int) (a7 : Nat → Int) (a8 : Nat) (a9 : Nat → Int) (a10 : Nat → Int) (a11 : Nat → Int) (a12 : Nat → Int) (a13 : Int) (a14 : Int) (p0 : Bool) (p1 : Int) (p2 : Int) (p3 : Int) (p4 : Int) (p5 : Nat) (p6 : Nat) (p7 : Int) : dwes0N → DD (Lf dwes0N dwes0R)
 | .n0 q0 q1 q2 q3 =>
 .ask (Cm.run Cm.lss q1 (↑p6 : Int))
   (.must (decide (0 ≤ q1))
   (.must (decide (q1 < (↑p6 : Int)))
   (.must (decide (0 + Int.toNat q1 < a8))
   (.ask (Cm.run Cm.gtr (Ar.run Ar.sub IntKind.i64 (Ar.run Ar.mn IntKind.i64 (Ar.run Ar.add IntKind.i64 q0 (a9 (0 + Int.toNat q1))) a14) (Ar.run Ar.mx IntKind.i64 q0 a13)) 0)
   (.must (decide (0 + p5 ≤ a5))
   (.must (ShapeOk [some IntKind.i64, some IntKind.i64] (tabOf p5 fun i => [CV.int IntKind.i64 (IE.x (a6 (0 + i))), CV.int IntKind.i64 (IE.x (a7 (0 + i)))]) fun i => [CV.int IntKind.i64 (IE.x (a6 (0 + i))), CV.int IntKind.i64 (IE.x (a7 (0 + i)))])
   (.must (decide (0 + p6 ≤ a8))
   (.must (ShapeOk [some IntKind.i64, some IntKind.i64, some IntKind.i64, some IntKind.i64] (tabOf p6 fun i => [CV.int IntKind.i64 (IE.x (a9 (0 + i))), CV.int IntKind.i64 (IE.x (a10 (0 + i))), CV.int IntKind.i64 (IE.x (a11 (0 + i))), CV.int IntKind.i64 (IE.x (a12 (0 + i)))]) fun i => [CV.int IntKind.i64 (IE.x (a9 (0 + i))), CV.int IntKind.i64 (IE.x (a10 (0 + i))), CV.int IntKind.i64 (IE.x (a11 (0 + i))), CV.int IntKind.i64 (IE.x (a12 (0 + i)))])
   (.must (AF.fin (dwoA p0 p1 p2 p3 p4 p5 (fun i => a6 (0 + i)) (fun i => a7 (0 + i)) p6 (fun i => a9 (0 + i)) (fun i => a10 (0 + i)) (fun i => a11 (0 + i)) (fun i => a12 (0 + i)) p7 q2 q3 (a10 (0 + Int.toNat q1)) (Ar.run Ar.sub IntKind.i64 (Ar.run Ar.mn IntKind.i64 (Ar.run Ar.add IntKind.i64 q0 (a9 (0 + Int.toNat q1))) a14) (Ar.run Ar.mx IntKind.i64 q0 a13))))
   (.leaf (.next (.n0 (Ar.run Ar.add IntKind.i64 q0 (a9 (0 + Int.toNat q1))) (Ar.run Ar.add IntKind.i64 q1 1) (Prod.fst (AF.val (dwoA p0 p1 p2 p3 p4 p5 (fun i => a6 (0 + i)) (fun i => a7 (0 + i)) p6 (fun i => a9 (0 + i)) (fun i => a10 (0 + i)) (fun i => a11 (0 + i)) (fun i => a12 (0 + i)) p7 q2 q3 (a10 (0 + Int.toNat q1)) (Ar.run Ar.sub IntKind.i64 (Ar.run Ar.mn IntKind.i64 (Ar.run Ar.add IntKind.i64 q0 (a9 (0 + Int.toNat q1))) a14) (Ar.run Ar.mx IntKind.i64 q0 a13))))) (Prod.snd (AF.val (dwoA p0 p1 p2 p3 p4 p5 (fun i => a6 (0 + i)) (fun i => a7 (0 + i)) p6 (fun i => a9 (0 + i)) (fun i => a10 (0 + i)) (fun i => a11 (0 + i)) (fun i => a12 (0 + i)) p7 q2 q3 (a10 (0 + Int.toNat q1)) (Ar.run Ar.sub IntKind.i64 (Ar.run Ar.mn IntKind.i64 (Ar.run Ar.add IntKind.i64 q0 (a9 (0 + Int.toNat q1))) a14) (Ar.run Ar.mx IntKind.i64 q0 a13)))))) [])))))))
   (.leaf (.next (.n0 (Ar.run Ar.add IntKind.i64 q0 (a9 (0 + Int.toNat q1))) (Ar.run Ar.add IntKind.i64 q1 1) q2 q3) []))))))
   (.leaf (.done (.r0 q2 q3) []))

noncomputable def dwes0A (a0 : Bool) (a1 : Int) (a2 : Int) (a3 : Int) (a4 : Int) (a5 : Nat) (a6 : Nat → Int) (a7 : Nat → Int) (a8 : Nat) (a9 : Nat → Int) (a10 : Nat → Int) (a11 : Nat → Int) (a12 : Nat → Int) (a13 : Int) (a14 : Int) (p0 : Bool) (p1 : Int) (p2 : Int) (p3 : Int) (p4 : Int) (p5 : Nat) (p6 : Nat) (p7 : Int) : AF dwes0N dwes0R where
  code := dwes0Code
  base := 9
  nt := 40
  m := 400
  un := []
  W := [4, 8]
  h0 := ((8, recB (mkT [(8, .ptr (some (2, 0))), (10, .ptr (some (3, 0))), (12, .ptr (some (4, 0))), (40, .fn (.func 87) [] [.ptr (some (5, 0)), .ptr (some (6, 0)), .ptr (some (7, 0))])]) 51 (rgP (codeAt dweCode [1, 1, 1, 1, 1, 0, 1, 0])) (rgA (codeAt dweCode [1, 1, 1, 1, 1, 0, 1, 0])) (rgB (codeAt dweCode [1, 1, 1, 1, 1, 0, 1, 0]))) :: (([(2, ⟨.lit [.int .i64 (.x 0), .int .i64 (.x 0)], 0, true, none⟩), (3, ⟨.lit [.bool (.x p0), .int .i64 (.x p1), .int .i64 (.x p2), .int .i64 (.x p3), .int .i64 (.x p4), .sla 0 2 0 p5, .sla 1 4 0 p6, .int .i64 (.x p7)], 0, true, none⟩), (4, ⟨.lit [.int .i64 (.x 0), .int .i64 (.x 0)], 0, true, none⟩), (5, ⟨.lit [.bool (.x p0), .int .i64 (.x p1), .int .i64 (.x p2), .int .i64 (.x p3), .int .i64 (.x p4), .sla 0 2 0 p5, .sla 1 4 0 p6, .int .i64 (.x p7)], 0, true, none⟩), (6, ⟨.lit [.int .i64 (.x a13)], 0, true, none⟩), (7, ⟨.lit [.int .i64 (.x a14)], 0, true, none⟩)] ++ []) ++ [(0, ⟨.arg a5 2 (fun i => [.int .i64 (.x (a6 i)), .int .i64 (.x (a7 i))]) (fun _ => ⟨rfl, rfl⟩), 2, true, none⟩), (1, ⟨.arg a8 4 (fun i => [.int .i64 (.x (a9 i)), .int .i64 (.x (a10 i)), .int .i64 (.x (a11 i)), .int .i64 (.x (a12 i))]) (fun _ => ⟨rfl, rfl⟩), 4, true, none⟩)]))
  args := [.yld 8, .ptr (some (5, 0)), .ptr (some (6, 0)), .ptr (some (7, 0))]
  res := (Try.f87).results.toList
  path := fun a => match a with
   | .n0 q0 q1 q2 q3 => [1, 1, 0]
  pd := fun a => match a with
   | .n0 q0 q1 q2 q3 => ⟨[(0, .yld 8), (2, .ptr (some (6, 0))), (3, .ptr (some (7, 0))), (5, .int .i64 (.x q0)), (11, .sla 1 4 0 p6), (12, .int .i64 (.x (↑p6))), (13, .int .i64 (.x q1))], [(4, ⟨.lit [.int .i64 (.x q2), .int .i64 (.x q3)], 0, true, none⟩)], 9, [(8, recS (mkT [(8, .ptr (some (2, 0))), (10, .ptr (some (3, 0))), (12, .ptr (some (4, 0))), (40, .fn (.func 87) [] [.ptr (some (5, 0)), .ptr (some (6, 0)), .ptr (some (7, 0))])]) 51 (rgP (codeAt dweCode [1, 1, 1, 1, 1, 0, 1, 0])) (rgA (codeAt dweCode [1, 1, 1, 1, 1, 0, 1, 0])) (rgB (codeAt dweCode [1, 1, 1, 1, 1, 0, 1, 0])) (.ready) (.none))]⟩
  D0 := dwes0D0 a0 a1 a2 a3 a4 a5 a6 a7 a8 a9 a10 a11 a12 a13 a14 p0 p1 p2 p3 p4 p5 p6 p7
  D := dwes0D a0 a1 a2 a3 a4 a5 a6 a7 a8 a9 a10 a11 a12 a13 a14 p0 p1 p2 p3 p4 p5 p6 p7
  rc := (fun v => match v with
 | .r0 q0 q1 => .tup [])
  rh := (fun v => match v with
 | .r0 q0 q1 => [(4, ⟨.lit [.int .i64 (.x q0), .int .i64 (.x q1)], 0, true, none⟩)])
  rn := (fun v => match v with
 | .r0 q0 q1 => 9)
  rx := (fun v => match v with
 | .r0 q0 q1 => [(8, recS (mkT [(8, .ptr (some (2, 0))), (10, .ptr (some (3, 0))), (12, .ptr (some (4, 0))), (40, .fn (.func 87) [] [.ptr (some (5, 0)), .ptr (some (6, 0)), .ptr (some (7, 0))])]) 51 (rgP (codeAt dweCode [1, 1, 1, 1, 1, 0, 1, 0])) (rgA (codeAt dweCode [1, 1, 1, 1, 1, 0, 1, 0])) (rgB (codeAt dweCode [1, 1, 1, 1, 1, 0, 1, 0])) (.ready) (.none))])
  rgo := (fun _ => none)


theorem dwes0start (a0 : Bool) (a1 : Int) (a2 : Int) (a3 : Int) (a4 : Int) (a5 : Nat) (a6 : Nat → Int) (a7 : Nat → Int) (a8 : Nat) (a9 : Nat → Int) (a10 : Nat → Int) (a11 : Nat → Int) (a12 : Nat → Int) (a13 : Int) (a14 : Int) (p0 : Bool) (p1 : Int) (p2 : Int) (p3 : Int) (p4 : Int) (p5 : Nat) (p6 : Nat) (p7 : Int) : AF.edgeOk (dwes0A a0 a1 a2 a3 a4 a5 a6 a7 a8 a9 a10 a11 a12 a13 a14 p0 p1 p2 p3 p4 p5 p6 p7) (ctxOf Try.prog memo0) (dwes0D0 a0 a1 a2 a3 a4 a5 a6 a7 a8 a9 a10 a11 a12 a13 a14 p0 p1 p2 p3 p4 p5 p6 p7) (AF.run0 (dwes0A a0 a1 a2 a3 a4 a5 a6 a7 a8 a9 a10 a11 a12 a13 a14 p0 p1 p2 p3 p4 p5 p6 p7) (ctxOf Try.prog (memoS 65 dwoP dwoF dwoW dwoH 2 (memoP 63 dshP dshF dshW dshH 2 memo0)))) := by unfold AF.edgeOk; kernel_rfl

theorem dwes0node0 (a0 : Bool) (a1 : Int) (a2 : Int) (a3 : Int) (a4 : Int) (a5 : Nat) (a6 : Nat → Int) (a7 : Nat → Int) (a8 : Nat) (a9 : Nat → Int) (a10 : Nat → Int) (a11 : Nat → Int) (a12 : Nat → Int) (a13 : Int) (a14 : Int) (p0 : Bool) (p1 : Int) (p2 : Int) (p3 : Int) (p4 : Int) (p5 : Nat) (p6 : Nat) (p7 : Int) (q0 : Int) (q1 : Int) (q2 : Int) (q3 : Int) : AF.edgeOk (dwes0A a0 a1 a2 a3 a4 a5 a6 a7 a8 a9 a10 a11 a12 a13 a14 p0 p1 p2 p3 p4 p5 p6 p7) (ctxOf Try.prog memo0) (dwes0D a0 a1 a2 a3 a4 a5 a6 a7 a8 a9 a10 a11 a12 a13 a14 p0 p1 p2 p3 p4 p5 p6 p7 (.n0 q0 q1 q2 q3)) (AF.runN (dwes0A a0 a1 a2 a3 a4 a5 a6 a7 a8 a9 a10 a11 a12 a13 a14 p0 p1 p2 p3 p4 p5 p6 p7) (ctxOf Try.prog (memoS 65 dwoP dwoF dwoW dwoH 2 (memoP 63 dshP dshF dshW dshH 2 memo0))) (.n0 q0 q1 q2 q3)) := by unfold AF.edgeOk; kernel_rfl

theorem dwes0ok (a0 : Bool) (a1 : Int) (a2 : Int) (a3 : Int) (a4 : Int) (a5 : Nat) (a6 : Nat → Int) (a7 : Nat → Int) (a8 : Nat) (a9 : Nat → Int) (a10 : Nat → Int) (a11 : Nat → Int) (a12 : Nat → Int) (a13 : Int) (a14 : Int) (p0 : Bool) (p1 : Int) (p2 : Int) (p3 : Int) (p4 : Int) (p5 : Nat) (p6 : Nat) (p7 : Int) : (dwes0A a0 a1 a2 a3 a4 a5 a6 a7 a8 a9 a10 a11 a12 a13 a14 p0 p1 p2 p3 p4 p5 p6 p7).Ok Try.prog (ctxOf Try.prog (memoS 65 dwoP dwoF dwoW dwoH 2 (memoP 63 dshP dshF dshW dshH 2 memo0))) where
  regs := by kernel_rfl
  h0 := by kernel_rfl
  start := dwes0start a0 a1 a2 a3 a4 a5 a6 a7 a8 a9 a10 a11 a12 a13 a14 p0 p1 p2 p3 p4 p5 p6 p7
  node := fun a _ => match a with
   | .n0 q0 q1 q2 q3 => dwes0node0 a0 a1 a2 a3 a4 a5 a6 a7 a8 a9 a10 a11 a12 a13 a14 p0 p1 p2 p3 p4 p5 p6 p7 q0 q1 q2 q3
  pd := fun a => match a with
   | .n0 q0 q1 q2 q3 => ⟨(fa_cons rfl (fa_cons rfl (fa_cons rfl (fa_cons rfl (fa_cons rfl (fa_cons rfl (fa_cons rfl fa_nil))))))), (fa_cons ⟨.inr (memW rfl), rfl, rfl⟩ fa_nil), (fa_cons ⟨memW rfl, RecOk.of rfl⟩ fa_nil), rfl⟩
  le := fun a => match a with
   | .n0 q0 q1 q2 q3 => Nat.le_of_ble_eq_true rfl
  rd := fun v => match v with
   | .r0 q0 q1 => ⟨⟨fa_nil, (fa_cons ⟨.inr (memW rfl), rfl, rfl⟩ fa_nil), (fa_cons ⟨memW rfl, RecOk.of rfl⟩ fa_nil), rfl⟩, rfl⟩
  wb := rfl


theorem dwes0hR {ρ : Env} (a0 : Bool) (a1 : Int) (a2 : Int) (a3 : Int) (a4 : Int) (a5 : Nat) (a6 : Nat → Int) (a7 : Nat → Int) (a8 : Nat) (a9 : Nat → Int) (a10 : Nat → Int) (a11 : Nat → Int) (a12 : Nat → Int) (a13 : Int) (a14 : Int) (p0 : Bool) (p1 : Int) (p2 : Int) (p3 : Int) (p4 : Int) (p5 : Nat) (p6 : Nat) (p7 : Int) (hM : MemoOk Try.prog (ctxOf Try.prog (memoS 65 dwoP dwoF dwoW dwoH 2 (memoP 63 dshP dshF dshW dshH 2 memo0))) ρ) : ∀ X a q n D, FxOk ρ X → X.base = (dwes0A a0 a1 a2 a3 a4 a5 a6 a7 a8 a9 a10 a11 a12 a13 a14 p0 p1 p2 p3 p4 p5 p6 p7).base → X.nt = (dwes0A a0 a1 a2 a3 a4 a5 a6 a7 a8 a9 a10 a11 a12 a13 a14 p0 p1 p2 p3 p4 p5 p6 p7).nt → X.W = (dwes0A a0 a1 a2 a3 a4 a5 a6 a7 a8 a9 a10 a11 a12 a13 a14 p0 p1 p2 p3 p4 p5 p6 p7).W → (dwes0A a0 a1 a2 a3 a4 a5 a6 a7 a8 a9 a10 a11 a12 a13 a14 p0 p1 p2 p3 p4 p5 p6 p7).rgo a = some q → q n = some D → (dwes0A a0 a1 a2 a3 a4 a5 a6 a7 a8 a9 a10 a11 a12 a13 a14 p0 p1 p2 p3 p4 p5 p6 p7).RangeOk Try.prog ρ X a D := AF.noRange rfl

inductive dweN where
  | n0 (p0 : Bool) (p1 : Int) (p2 : Int) (p3 : Int) (p4 : Int) (p5 : Nat) (p6 : Nat) (p7 : Int)

abbrev dweR := Int × Int × Int

noncomputable def dweD0 (a0 : Bool) (a1 : Int) (a2 : Int) (a3 : Int) (a4 : Int) (a5 : Nat) (a6 : Nat → Int) (a7 : Nat → Int) (a8 : Nat) (a9 : Nat → Int) (a10 : Nat → Int) (a11 : Nat → Int) (a12 : Nat → Int) (a13 : Int) (a14 : Int) : DD (Lf dweN dweR) :=
 .must (decide (0 + a5 ≤ a5))
   (.must (ShapeOk [some IntKind.i64, some IntKind.i64] (tabOf a5 fun i => [CV.int IntKind.i64 (IE.x (a6 (0 + i))), CV.int IntKind.i64 (IE.x (a7 (0 + i)))]) fun i => [CV.int IntKind.i64 (IE.x (a6 (0 + i))), CV.int IntKind.i64 (IE.x (a7 (0 + i)))])
   (.must (decide (0 + a8 ≤ a8))
   (.must (ShapeOk [some IntKind.i64, some IntKind.i64, some IntKind.i64, some IntKind.i64] (tabOf a8 fun i => [CV.int IntKind.i64 (IE.x (a9 (0 + i))), CV.int IntKind.i64 (IE.x (a10 (0 + i))), CV.int IntKind.i64 (IE.x (a11 (0 + i))), CV.int IntKind.i64 (IE.x (a12 (0 + i)))]) fun i => [CV.int IntKind.i64 (IE.x (a9 (0 + i))), CV.int IntKind.i64 (IE.x (a10 (0 + i))), CV.int IntKind.i64 (IE.x (a11 (0 + i))), CV.int IntKind.i64 (IE.x (a12 (0 + i)))])
   (.must (AF.fin (dshA a0 a1 a2 a3 a4 a5 (fun i => a6 (0 + i)) (fun i => a7 (0 + i)) a8 (fun i => a9 (0 + i)) (fun i => a10 (0 + i)) (fun i => a11 (0 + i)) fun i => a12 (0 + i)))
   (.ask (Cm.run Cm.neq (dshw8 (AF.val (dshA a0 a1 a2 a3 a4 a5 (fun i => a6 (0 + i)) (fun i => a7 (0 + i)) a8 (fun i => a9 (0 + i)) (fun i => a10 (0 + i)) (fun i => a11 (0 + i)) fun i => a12 (0 + i)))) 0)
   (.leaf (.done (0, 0, dshw8 (AF.val (dshA a0 a1 a2 a3 a4 a5 (fun i => a6 (0 + i)) (fun i => a7 (0 + i)) a8 (fun i => a9 (0 + i)) (fun i => a10 (0 + i)) (fun i => a11 (0 + i)) fun i => a12 (0 + i)))) []))
   (.ask (Cm.run Cm.lss a13 0)
   (.leaf (.done (0, 0, 3) []))
   (.ask (Cm.run Cm.gtr a13 (dshw7 (AF.val (dshA a0 a1 a2 a3 a4 a5 (fun i => a6 (0 + i)) (fun i => a7 (0 + i)) a8 (fun i => a9 (0 + i)) (fun i => a10 (0 + i)) (fun i => a11 (0 + i)) fun i => a12 (0 + i)))))
   (.leaf (.done (0, 0, 3) []))
   (.ask (Cm.run Cm.lss a14 0)
   (.leaf (.done (0, 0, 3) []))
   (.ask (Cm.run Cm.gtr a14 (dshw7 (AF.val (dshA a0 a1 a2 a3 a4 a5 (fun i => a6 (0 + i)) (fun i => a7 (0 + i)) a8 (fun i => a9 (0 + i)) (fun i => a10 (0 + i)) (fun i => a11 (0 + i)) fun i => a12 (0 + i)))))
   (.leaf (.done (0, 0, 3) []))
   (.ask (Cm.run Cm.gtr a13 a14)
   (.leaf (.done (0, 0, 3) []))
   (.leaf (.next (.n0 (dshw0 (AF.val (dshA a0 a1 a2 a3 a4 a5 (fun i => a6 (0 + i)) (fun i => a7 (0 + i)) a8 (fun i => a9 (0 + i)) (fun i => a10 (0 + i)) (fun i => a11 (0 + i)) fun i => a12 (0 + i)))) (dshw1 (AF.val (dshA a0 a1 a2 a3 a4 a5 (fun i => a6 (0 + i)) (fun i => a7 (0 + i)) a8 (fun i => a9 (0 + i)) (fun i => a10 (0 + i)) (fun i => a11 (0 + i)) fun i => a12 (0 + i)))) (dshw2 (AF.val (dshA a0 a1 a2 a3 a4 a5 (fun i => a6 (0 + i)) (fun i => a7 (0 + i)) a8 (fun i => a9 (0 + i)) (fun i => a10 (0 + i)) (fun i => a11 (0 + i)) fun i => a12 (0 + i)))) (dshw3 (AF.val (dshA a0 a1 a2 a3 a4 a5 (fun i => a6 (0 + i)) (fun i => a7 (0 + i)) a8 (fun i => a9 (0 + i)) (fun i => a10 (0 + i)) (fun i => a11 (0 + i)) fun i => a12 (0 + i)))) (dshw4 (AF.val (dshA a0 a1 a2 a3 a4 a5 (fun i => a6 (0 + i)) (fun i => a7 (0 + i)) a8 (fun i => a9 (0 + i)) (fun i => a10 (0 + i)) (fun i => a11 (0 + i)) fun i => a12 (0 + i)))) (dshw5 (AF.val (dshA a0 a1 a2 a3 a4 a5 (fun i => a6 (0 + i)) (fun i => a7 (0 + i)) a8 (fun i => a9 (0 + i)) (fun i => a10 (0 + i)) (fun i => a11 (0 + i)) fun i => a12 (0 + i)))) (dshw6 (AF.val (dshA a0 a1 a2 a3 a4 a5 (fun i => a6 (0 + i)) (fun i => a7 (0 + i)) a8 (fun i => a9 (0 + i)) (fun i => a10 (0 + i)) (fun i => a11 (0 + i)) fun i => a12 (0 + i)))) (dshw7 (AF.val (dshA a0 a1 a2 a3 a4 a5 (fun i => a6 (0 + i)) (fun i => a7 (0 + i)) a8 (fun i => a9 (0 + i)) (fun i => a10 (0 + i)) (fun i => a11 (0 + i)) fun i => a12 (0 + i))))) [3, 4, 8, 9, 10, 11]))))))))))))

noncomputable def dweD (a0 : Bool) (a1 : Int) (a2 : Int) (a3 : Int) (a4 : Int) (a5 : Nat) (a6 : Nat → Int) (a7 : Nat → Int) (a8 : Nat) (a9 : Nat → Int) (a10 : Nat → Int) (a11 : Nat → Int) (a12 : Nat → Int) (a13 : Int) (a14 : Int) : dweN → DD (Lf dweN dweR)
 | .n0 p0 p1 p2 p3 p4 p5 p6 p7 =>
 .dead

noncomputable def dweRg0 (a0 : Bool) (a1 : Int) (a2 : Int) (a3 : Int) (a4 : Int) (a5 : Nat) (a6 : Nat → Int) (a7 : Nat → Int) (a8 : Nat) (a9 : Nat → Int) (a10 : Nat → Int) (a11 : Nat → Int) (a12 : Nat → Int) (a13 : Int) (a14 : Int) (p0 : Bool) (p1 : Int) (p2 : Int) (p3 : Int) (p4 : Int) (p5 : Nat) (p6 : Nat) (p7 : Int) : dwes0R → DD (Lf dweN dweR)
 | .r0 q0 q1 =>
 .leaf (.done (q0, q1, 0) [])

noncomputable def dweA (a0 : Bool) (a1 : Int) (a2 : Int) (a3 : Int) (a4 : Int) (a5 : Nat) (a6 : Nat → Int) (a7 : Nat → Int) (a8 : Nat) (a9 : Nat → Int) (a10 : Nat → Int) (a11 : Nat → Int) (a12 : Nat → Int) (a13 : Int) (a14 : Int) : AF dweN dweR where
  code := dweCode
  base := 2
  nt := 51
  m := 400
  un := [1000008]
  W := []
  h0 := [(0, ⟨.arg a5 2 (fun i => [.int .i64 (.x (a6 i)), .int .i64 (.x (a7 i))]) (fun _ => ⟨rfl, rfl⟩), 2, true, none⟩), (1, ⟨.arg a8 4 (fun i => [.int .i64 (.x (a9 i)), .int .i64 (.x (a10 i)), .int .i64 (.x (a11 i)), .int .i64 (.x (a12 i))]) (fun _ => ⟨rfl, rfl⟩), 4, true, none⟩)]
  args := [.agg [.bool (.x a0), .int .i64 (.x a1), .int .i64 (.x a2), .int .i64 (.x a3), .int .i64 (.x a4), .sla 0 2 0 a5], .sla 1 4 0 a8, .int .i64 (.x a13), .int .i64 (.x a14)]
  res := (Try.f18).results.toList
  path := fun a => match a with
   | .n0 p0 p1 p2 p3 p4 p5 p6 p7 => [1, 1, 1, 1, 1, 0, 1, 0]
  pd := fun a => match a with
   | .n0 p0 p1 p2 p3 p4 p5 p6 p7 => ⟨[(8, .ptr (some (2, 0))), (10, .ptr (some (3, 0))), (12, .ptr (some (4, 0))), (40, .fn (.func 87) [] [.ptr (some (5, 0)), .ptr (some (6, 0)), .ptr (some (7, 0))])], [(2, ⟨.lit [.int .i64 (.x 0), .int .i64 (.x 0)], 0, true, none⟩), (3, ⟨.lit [.bool (.x p0), .int .i64 (.x p1), .int .i64 (.x p2), .int .i64 (.x p3), .int .i64 (.x p4), .sla 0 2 0 p5, .sla 1 4 0 p6, .int .i64 (.x p7)], 0, true, none⟩), (4, ⟨.lit [.int .i64 (.x 0), .int .i64 (.x 0)], 0, true, none⟩), (5, ⟨.lit [.bool (.x p0), .int .i64 (.x p1), .int .i64 (.x p2), .int .i64 (.x p3), .int .i64 (.x p4), .sla 0 2 0 p5, .sla 1 4 0 p6, .int .i64 (.x p7)], 0, true, none⟩), (6, ⟨.lit [.int .i64 (.x a13)], 0, true, none⟩), (7, ⟨.lit [.int .i64 (.x a14)], 0, true, none⟩)], 8, []⟩
  D0 := dweD0 a0 a1 a2 a3 a4 a5 a6 a7 a8 a9 a10 a11 a12 a13 a14
  D := dweD a0 a1 a2 a3 a4 a5 a6 a7 a8 a9 a10 a11 a12 a13 a14
  rc := (fun v => .tup [.agg [.int .i64 (.x v.1), .int .i64 (.x v.2.1)], .int .i64 (.x v.2.2)])
  rh := (fun v => [])
  rn := (fun v => 2)
  rx := (fun v => [])
  rgo := (fun a => match a with
   | .n0 p0 p1 p2 p3 p4 p5 p6 p7 => some (fun n => (AF.run (dwes0A a0 a1 a2 a3 a4 a5 a6 a7 a8 a9 a10 a11 a12 a13 a14 p0 p1 p2 p3 p4 p5 p6 p7) n).map (dweRg0 a0 a1 a2 a3 a4 a5 a6 a7 a8 a9 a10 a11 a12 a13 a14 p0 p1 p2 p3 p4 p5 p6 p7)))


theorem dwestart (a0 : Bool) (a1 : Int) (a2 : Int) (a3 : Int) (a4 : Int) (a5 : Nat) (a6 : Nat → Int) (a7 : Nat → Int) (a8 : Nat) (a9 : Nat → Int) (a10 : Nat → Int) (a11 : Nat → Int) (a12 : Nat → Int) (a13 : Int) (a14 : Int) : AF.edgeOk (dweA a0 a1 a2 a3 a4 a5 a6 a7 a8 a9 a10 a11 a12 a13 a14) (ctxOf Try.prog memo0) (dweD0 a0 a1 a2 a3 a4 a5 a6 a7 a8 a9 a10 a11 a12 a13 a14) (AF.run0 (dweA a0 a1 a2 a3 a4 a5 a6 a7 a8 a9 a10 a11 a12 a13 a14) (ctxOf Try.prog (memoS 65 dwoP dwoF dwoW dwoH 2 (memoP 63 dshP dshF dshW dshH 2 memo0)))) := by unfold AF.edgeOk; kernel_rfl

theorem dweok (a0 : Bool) (a1 : Int) (a2 : Int) (a3 : Int) (a4 : Int) (a5 : Nat) (a6 : Nat → Int) (a7 : Nat → Int) (a8 : Nat) (a9 : Nat → Int) (a10 : Nat → Int) (a11 : Nat → Int) (a12 : Nat → Int) (a13 : Int) (a14 : Int) : (dweA a0 a1 a2 a3 a4 a5 a6 a7 a8 a9 a10 a11 a12 a13 a14).Ok Try.prog (ctxOf Try.prog (memoS 65 dwoP dwoF dwoW dwoH 2 (memoP 63 dshP dshF dshW dshH 2 memo0))) where
  regs := by kernel_rfl
  h0 := by kernel_rfl
  start := dwestart a0 a1 a2 a3 a4 a5 a6 a7 a8 a9 a10 a11 a12 a13 a14
  node := fun a h => match a, h with
   | .n0 p0 p1 p2 p3 p4 p5 p6 p7, h => someNe h
  pd := fun a => match a with
   | .n0 p0 p1 p2 p3 p4 p5 p6 p7 => ⟨(fa_cons rfl (fa_cons rfl (fa_cons rfl (fa_cons rfl fa_nil)))), (fa_cons ⟨.inl (Nat.le_of_ble_eq_true rfl), rfl, rfl⟩ (fa_cons ⟨.inl (Nat.le_of_ble_eq_true rfl), rfl, rfl⟩ (fa_cons ⟨.inl (Nat.le_of_ble_eq_true rfl), rfl, rfl⟩ (fa_cons ⟨.inl (Nat.le_of_ble_eq_true rfl), rfl, rfl⟩ (fa_cons ⟨.inl (Nat.le_of_ble_eq_true rfl), rfl, rfl⟩ (fa_cons ⟨.inl (Nat.le_of_ble_eq_true rfl), rfl, rfl⟩ fa_nil)))))), fa_nil, rfl⟩
  le := fun a => match a with
   | .n0 p0 p1 p2 p3 p4 p5 p6 p7 => Nat.le_of_ble_eq_true rfl
  rd := fun v => ⟨⟨fa_nil, fa_nil, fa_nil, rfl⟩, rfl⟩
  wb := rfl


theorem dwerg0_0 (a0 : Bool) (a1 : Int) (a2 : Int) (a3 : Int) (a4 : Int) (a5 : Nat) (a6 : Nat → Int) (a7 : Nat → Int) (a8 : Nat) (a9 : Nat → Int) (a10 : Nat → Int) (a11 : Nat → Int) (a12 : Nat → Int) (a13 : Int) (a14 : Int) (p0 : Bool) (p1 : Int) (p2 : Int) (p3 : Int) (p4 : Int) (p5 : Nat) (p6 : Nat) (p7 : Int) (q0 : Int) (q1 : Int) : AF.edgeOk (dweA a0 a1 a2 a3 a4 a5 a6 a7 a8 a9 a10 a11 a12 a13 a14) (ctxOf Try.prog memo0) (dweRg0 a0 a1 a2 a3 a4 a5 a6 a7 a8 a9 a10 a11 a12 a13 a14 p0 p1 p2 p3 p4 p5 p6 p7 (.r0 q0 q1)) (AF.runR (dweA a0 a1 a2 a3 a4 a5 a6 a7 a8 a9 a10 a11 a12 a13 a14) (ctxOf Try.prog (memoS 65 dwoP dwoF dwoW dwoH 2 (memoP 63 dshP dshF dshW dshH 2 memo0))) (.n0 p0 p1 p2 p3 p4 p5 p6 p7) (putH (dwes0A a0 a1 a2 a3 a4 a5 a6 a7 a8 a9 a10 a11 a12 a13 a14 p0 p1 p2 p3 p4 p5 p6 p7).H0 ((dwes0A a0 a1 a2 a3 a4 a5 a6 a7 a8 a9 a10 a11 a12 a13 a14 p0 p1 p2 p3 p4 p5 p6 p7).rh (.r0 q0 q1) ++ (dwes0A a0 a1 a2 a3 a4 a5 a6 a7 a8 a9 a10 a11 a12 a13 a14 p0 p1 p2 p3 p4 p5 p6 p7).rx (.r0 q0 q1))) ((dwes0A a0 a1 a2 a3 a4 a5 a6 a7 a8 a9 a10 a11 a12 a13 a14 p0 p1 p2 p3 p4 p5 p6 p7).rn (.r0 q0 q1)) ⟨mkT [(8, .ptr (some (2, 0))), (10, .ptr (some (3, 0))), (12, .ptr (some (4, 0))), (40, .fn (.func 87) [] [.ptr (some (5, 0)), .ptr (some (6, 0)), .ptr (some (7, 0))])], 51, rgP (codeAt dweCode [1, 1, 1, 1, 1, 0, 1, 0]), rgA (codeAt dweCode [1, 1, 1, 1, 1, 0, 1, 0]), rgB (codeAt dweCode [1, 1, 1, 1, 1, 0, 1, 0]), .ready, .none⟩ .normal) := by unfold AF.edgeOk; kernel_rfl

theorem dwerg0 (a0 : Bool) (a1 : Int) (a2 : Int) (a3 : Int) (a4 : Int) (a5 : Nat) (a6 : Nat → Int) (a7 : Nat → Int) (a8 : Nat) (a9 : Nat → Int) (a10 : Nat → Int) (a11 : Nat → Int) (a12 : Nat → Int) (a13 : Int) (a14 : Int) (p0 : Bool) (p1 : Int) (p2 : Int) (p3 : Int) (p4 : Int) (p5 : Nat) (p6 : Nat) (p7 : Int) : AF.Rg (dweA a0 a1 a2 a3 a4 a5 a6 a7 a8 a9 a10 a11 a12 a13 a14) (dwes0A a0 a1 a2 a3 a4 a5 a6 a7 a8 a9 a10 a11 a12 a13 a14 p0 p1 p2 p3 p4 p5 p6 p7) Try.prog (ctxOf Try.prog (memoS 65 dwoP dwoF dwoW dwoH 2 (memoP 63 dshP dshF dshW dshH 2 memo0))) (ctxOf Try.prog (memoS 65 dwoP dwoF dwoW dwoH 2 (memoP 63 dshP dshF dshW dshH 2 memo0))) (.n0 p0 p1 p2 p3 p4 p5 p6 p7) (rgF (codeAt dweCode [1, 1, 1, 1, 1, 0, 1, 0])) (rgP (codeAt dweCode [1, 1, 1, 1, 1, 0, 1, 0])) (rgA (codeAt dweCode [1, 1, 1, 1, 1, 0, 1, 0])) (rgB (codeAt dweCode [1, 1, 1, 1, 1, 0, 1, 0])) 87 Try.f87 [] [.ptr (some (5, 0)), .ptr (some (6, 0)), .ptr (some (7, 0))] (fun v => match v with
   | .r0 q0 q1 => ⟨mkT [(8, .ptr (some (2, 0))), (10, .ptr (some (3, 0))), (12, .ptr (some (4, 0))), (40, .fn (.func 87) [] [.ptr (some (5, 0)), .ptr (some (6, 0)), .ptr (some (7, 0))])], 51, rgP (codeAt dweCode [1, 1, 1, 1, 1, 0, 1, 0]), rgA (codeAt dweCode [1, 1, 1, 1, 1, 0, 1, 0]), rgB (codeAt dweCode [1, 1, 1, 1, 1, 0, 1, 0]), .ready, .none⟩) (fun v => match v with
   | .r0 q0 q1 => .normal) (dweRg0 a0 a1 a2 a3 a4 a5 a6 a7 a8 a9 a10 a11 a12 a13 a14 p0 p1 p2 p3 p4 p5 p6 p7) where
  code := by kernel_rfl
  fn := by kernel_rfl
  args := rfl
  base := rfl
  h0 := rfl
  W := rfl
  gfn := Try.func87
  body := rfl
  nt := rfl
  len := Nat.le_of_ble_eq_true rfl
  res := rfl
  ok := dwes0ok a0 a1 a2 a3 a4 a5 a6 a7 a8 a9 a10 a11 a12 a13 a14 p0 p1 p2 p3 p4 p5 p6 p7
  le := fun v => match v with
   | .r0 q0 q1 => Nat.le_of_ble_eq_true rfl
  lt := fun v => match v with
   | .r0 q0 q1 => rfl
  rcd := fun v => match v with
   | .r0 q0 q1 => rfl
  st := fun v => match v with
   | .r0 q0 q1 => (fun h => LoopState.noConfusion h)
  exd := fun v => match v with
   | .r0 q0 q1 => rfl
  D := fun v => match v with
   | .r0 q0 q1 => dwerg0_0 a0 a1 a2 a3 a4 a5 a6 a7 a8 a9 a10 a11 a12 a13 a14 p0 p1 p2 p3 p4 p5 p6 p7 q0 q1


theorem dwehR {ρ : Env} (a0 : Bool) (a1 : Int) (a2 : Int) (a3 : Int) (a4 : Int) (a5 : Nat) (a6 : Nat → Int) (a7 : Nat → Int) (a8 : Nat) (a9 : Nat → Int) (a10 : Nat → Int) (a11 : Nat → Int) (a12 : Nat → Int) (a13 : Int) (a14 : Int) (hM : MemoOk Try.prog (ctxOf Try.prog (memoS 65 dwoP dwoF dwoW dwoH 2 (memoP 63 dshP dshF dshW dshH 2 memo0))) ρ) : ∀ X a q n D, FxOk ρ X → X.base = (dweA a0 a1 a2 a3 a4 a5 a6 a7 a8 a9 a10 a11 a12 a13 a14).base → X.nt = (dweA a0 a1 a2 a3 a4 a5 a6 a7 a8 a9 a10 a11 a12 a13 a14).nt → X.W = (dweA a0 a1 a2 a3 a4 a5 a6 a7 a8 a9 a10 a11 a12 a13 a14).W → (dweA a0 a1 a2 a3 a4 a5 a6 a7 a8 a9 a10 a11 a12 a13 a14).rgo a = some q → q n = some D → (dweA a0 a1 a2 a3 a4 a5 a6 a7 a8 a9 a10 a11 a12 a13 a14).RangeOk Try.prog ρ X a D := by
  intro X a q n D h1 h2 h3 h4 hq hD
  cases a with
  | n0 p0 p1 p2 p3 p4 p5 p6 p7 =>
    have e := Option.some.inj hq
    subst e
    exact AF.range_ok (n := n) try_ok hM hM (dweok a0 a1 a2 a3 a4 a5 a6 a7 a8 a9 a10 a11 a12 a13 a14) (dwerg0 a0 a1 a2 a3 a4 a5 a6 a7 a8 a9 a10 a11 a12 a13 a14 p0 p1 p2 p3 p4 p5 p6 p7) (dwes0hR a0 a1 a2 a3 a4 a5 a6 a7 a8 a9 a10 a11 a12 a13 a14 p0 p1 p2 p3 p4 p5 p6 p7 hM) h1 h2 h3 h4 hD

theorem dwectr {ρ : Env} (a0 : Bool) (a1 : Int) (a2 : Int) (a3 : Int) (a4 : Int) (a5 : Nat) (a6 : Nat → Int) (a7 : Nat → Int) (a8 : Nat) (a9 : Nat → Int) (a10 : Nat → Int) (a11 : Nat → Int) (a12 : Nat → Int) (a13 : Int) (a14 : Int) {n : Nat} {v : dweR} (hM : MemoOk Try.prog (ctxOf Try.prog (memoS 65 dwoP dwoF dwoW dwoH 2 (memoP 63 dshP dshF dshW dshH 2 memo0))) ρ) (hv : (dweA a0 a1 a2 a3 a4 a5 a6 a7 a8 a9 a10 a11 a12 a13 a14).run n = some v) :
    Ctr Try.prog ρ 18 (dweA a0 a1 a2 a3 a4 a5 a6 a7 a8 a9 a10 a11 a12 a13 a14).args (dweA a0 a1 a2 a3 a4 a5 a6 a7 a8 a9 a10 a11 a12 a13 a14).H0 (dweA a0 a1 a2 a3 a4 a5 a6 a7 a8 a9 a10 a11 a12 a13 a14).base (dweA a0 a1 a2 a3 a4 a5 a6 a7 a8 a9 a10 a11 a12 a13 a14).W ((dweA a0 a1 a2 a3 a4 a5 a6 a7 a8 a9 a10 a11 a12 a13 a14).rc v) (putH (dweA a0 a1 a2 a3 a4 a5 a6 a7 a8 a9 a10 a11 a12 a13 a14).H0 ((dweA a0 a1 a2 a3 a4 a5 a6 a7 a8 a9 a10 a11 a12 a13 a14).rh v ++ (dweA a0 a1 a2 a3 a4 a5 a6 a7 a8 a9 a10 a11 a12 a13 a14).rx v)) ((dweA a0 a1 a2 a3 a4 a5 a6 a7 a8 a9 a10 a11 a12 a13 a14).rn v) :=
  AF.ctr try_ok hM (dweok a0 a1 a2 a3 a4 a5 a6 a7 a8 a9 a10 a11 a12 a13 a14) (fn := Try.f18) Try.func18 rfl rfl (Nat.le_of_ble_eq_true rfl) rfl (dwehR a0 a1 a2 a3 a4 a5 a6 a7 a8 a9 a10 a11 a12 a13 a14 hM) hv


theorem dwemem {ρ : Env} : MemoOk Try.prog (ctxOf Try.prog (memoS 65 dwoP dwoF dwoW dwoH 2 (memoP 63 dshP dshF dshW dshH 2 memo0))) ρ := (memoS_ok (dwoknown dwomem) (memoP_ok (dshknown dshmem) memo0_ok))


abbrev dweP : List AQ := [.agg [.bool, .int .i64, .int .i64, .int .i64, .int .i64, .rows [some .i64, some .i64]], .rows [some .i64, some .i64, some .i64, some .i64], .int .i64, .int .i64]

noncomputable def dweF (v : AW) : AF dweN dweR := dweA (v.b.getD 0 false) (v.i.getD 0 0) (v.i.getD 1 0) (v.i.getD 2 0) (v.i.getD 3 0) (v.t.getD 0 .none).n ((v.t.getD 0 .none).c 0) ((v.t.getD 0 .none).c 1) (v.t.getD 1 .none).n ((v.t.getD 1 .none).c 0) ((v.t.getD 1 .none).c 1) ((v.t.getD 1 .none).c 2) ((v.t.getD 1 .none).c 3) (v.i.getD 4 0) (v.i.getD 5 0)

noncomputable def dweW : dweR → CV := fun v => .tup [.agg [.int .i64 (.x v.1), .int .i64 (.x v.2.1)], .int .i64 (.x v.2.2)]
noncomputable def dweH : dweR → List (Nat × Blk) := fun v => []



instance : Inhabited dweR := ⟨(0, 0, 0)⟩
theorem dweknown {ρ : Env} (hM : MemoOk Try.prog (ctxOf Try.prog (memoS 65 dwoP dwoF dwoW dwoH 2 (memoP 63 dshP dshF dshW dshH 2 memo0))) ρ) : KnownS Try.prog ρ 18 dweP dweF dweW dweH 2 where
  fn := ⟨Try.f18, Try.func18, rfl⟩
  le := Nat.le_of_ble_eq_true rfl
  full := fun r => rfl
  rg := fun r => rfl
  hg := fun r => fa_nil
  ctr := fun v n r h => dwectr (v.b.getD 0 false) (v.i.getD 0 0) (v.i.getD 1 0) (v.i.getD 2 0) (v.i.getD 3 0) (v.t.getD 0 .none).n ((v.t.getD 0 .none).c 0) ((v.t.getD 0 .none).c 1) (v.t.getD 1 .none).n ((v.t.getD 1 .none).c 0) ((v.t.getD 1 .none).c 1) ((v.t.getD 1 .none).c 2) ((v.t.getD 1 .none).c 3) (v.i.getD 4 0) (v.i.getD 5 0) hM h

end Go.Proofs.Ythagjhadjpangaa.Cx

/- acme/die.Targets as an automaton. Made by tools/cxauto.py. -/
namespace Go.Proofs.Ythagjhadjpangaa.Cx
set_option linter.unusedVariables false
set_option linter.unusedSimpArgs false
set_option maxRecDepth 100000
open Go Go.Proofs Go.RowKit

noncomputable abbrev dtaCode : Code := funcCode Try.f19


abbrev dtaN := Empty

abbrev dtaR := Int × Int × Int

noncomputable def dtaD0 (a0 : Bool) (a1 : Int) (a2 : Int) (a3 : Int) (a4 : Int) (a5 : Nat) (a6 : Nat → Int) (a7 : Nat → Int) (a8 : Nat) (a9 : Nat → Int) (a10 : Nat → Int) (a11 : Nat → Int) (a12 : Nat → Int) (a13 : Int) (a14 : Int) : DD (Lf dtaN dtaR) :=
 .must (decide (0 + a5 ≤ a5))
   (.must (ShapeOk [some IntKind.i64, some IntKind.i64] (tabOf a5 fun i => [CV.int IntKind.i64 (IE.x (a6 (0 + i))), CV.int IntKind.i64 (IE.x (a7 (0 + i)))]) fun i => [CV.int IntKind.i64 (IE.x (a6 (0 + i))), CV.int IntKind.i64 (IE.x (a7 (0 + i)))])
   (.must (decide (0 + a8 ≤ a8))
   (.must (ShapeOk [some IntKind.i64, some IntKind.i64, some IntKind.i64, some IntKind.i64] (tabOf a8 fun i => [CV.int IntKind.i64 (IE.x (a9 (0 + i))), CV.int IntKind.i64 (IE.x (a10 (0 + i))), CV.int IntKind.i64 (IE.x (a11 (0 + i))), CV.int IntKind.i64 (IE.x (a12 (0 + i)))]) fun i => [CV.int IntKind.i64 (IE.x (a9 (0 + i))), CV.int IntKind.i64 (IE.x (a10 (0 + i))), CV.int IntKind.i64 (IE.x (a11 (0 + i))), CV.int IntKind.i64 (IE.x (a12 (0 + i)))])
   (.must (AF.fin (dshA a0 a1 a2 a3 a4 a5 (fun i => a6 (0 + i)) (fun i => a7 (0 + i)) a8 (fun i => a9 (0 + i)) (fun i => a10 (0 + i)) (fun i => a11 (0 + i)) fun i => a12 (0 + i)))
   (.ask (Cm.run Cm.neq (dshw8 (AF.val (dshA a0 a1 a2 a3 a4 a5 (fun i => a6 (0 + i)) (fun i => a7 (0 + i)) a8 (fun i => a9 (0 + i)) (fun i => a10 (0 + i)) (fun i => a11 (0 + i)) fun i => a12 (0 + i)))) 0)
   (.leaf (.done (0, 0, dshw8 (AF.val (dshA a0 a1 a2 a3 a4 a5 (fun i => a6 (0 + i)) (fun i => a7 (0 + i)) a8 (fun i => a9 (0 + i)) (fun i => a10 (0 + i)) (fun i => a11 (0 + i)) fun i => a12 (0 + i)))) []))
   (.ask (Cm.run Cm.lss a13 0)
   (.leaf (.done (0, 0, 3) []))
   (.ask (Cm.run Cm.gtr a13 (dshw7 (AF.val (dshA a0 a1 a2 a3 a4 a5 (fun i => a6 (0 + i)) (fun i => a7 (0 + i)) a8 (fun i => a9 (0 + i)) (fun i => a10 (0 + i)) (fun i => a11 (0 + i)) fun i => a12 (0 + i)))))
   (.leaf (.done (0, 0, 3) []))
   (.ask (Cm.run Cm.lss a14 0)
   (.leaf (.done (0, 0, 3) []))
   (.ask (Cm.run Cm.gtr a14 (dshw7 (AF.val (dshA a0 a1 a2 a3 a4 a5 (fun i => a6 (0 + i)) (fun i => a7 (0 + i)) a8 (fun i => a9 (0 + i)) (fun i => a10 (0 + i)) (fun i => a11 (0 + i)) fun i => a12 (0 + i)))))
   (.leaf (.done (0, 0, 3) []))
   (.ask (Cm.run Cm.geq a13 a14)
   (.leaf (.done (0, 0, 3) []))
   (.must (decide (0 + dshw5 (AF.val (dshA a0 a1 a2 a3 a4 a5 (fun i => a6 (0 + i)) (fun i => a7 (0 + i)) a8 (fun i => a9 (0 + i)) (fun i => a10 (0 + i)) (fun i => a11 (0 + i)) fun i => a12 (0 + i))) ≤ a5))
   (.must (ShapeOk [some IntKind.i64, some IntKind.i64] (tabOf (dshw5 (AF.val (dshA a0 a1 a2 a3 a4 a5 (fun i => a6 (0 + i)) (fun i => a7 (0 + i)) a8 (fun i => a9 (0 + i)) (fun i => a10 (0 + i)) (fun i => a11 (0 + i)) fun i => a12 (0 + i)))) fun i => [CV.int IntKind.i64 (IE.x (a6 (0 + i))), CV.int IntKind.i64 (IE.x (a7 (0 + i)))]) fun i => [CV.int IntKind.i64 (IE.x (a6 (0 + i))), CV.int IntKind.i64 (IE.x (a7 (0 + i)))])
   (.must (decide (0 + dshw6 (AF.val (dshA a0 a1 a2 a3 a4 a5 (fun i => a6 (0 + i)) (fun i => a7 (0 + i)) a8 (fun i => a9 (0 + i)) (fun i => a10 (0 + i)) (fun i => a11 (0 + i)) fun i => a12 (0 + i))) ≤ a8))
   (.must (ShapeOk [some IntKind.i64, some IntKind.i64, some IntKind.i64, some IntKind.i64] (tabOf (dshw6 (AF.val (dshA a0 a1 a2 a3 a4 a5 (fun i => a6 (0 + i)) (fun i => a7 (0 + i)) a8 (fun i => a9 (0 + i)) (fun i => a10 (0 + i)) (fun i => a11 (0 + i)) fun i => a12 (0 + i)))) fun i => [CV.int IntKind.i64 (IE.x (a9 (0 + i))), CV.int IntKind.i64 (IE.x (a10 (0 + i))), CV.int IntKind.i64 (IE.x (a11 (0 + i))), CV.int IntKind.i64 (IE.x (a12 (0 + i)))]) fun i => [CV.int IntKind.i64 (IE.x (a9 (0 + i))), CV.int IntKind.i64 (IE.x (a10 (0 + i))), CV.int IntKind.i64 (IE.x (a11 (0 + i))), CV.int IntKind.i64 (IE.x (a12 (0 + i)))])
   (.must (AF.fin (drcA (dshw0 (AF.val (dshA a0 a1 a2 a3 a4 a5 (fun i => a6 (0 + i)) (fun i => a7 (0 + i)) a8 (fun i => a9 (0 + i)) (fun i => a10 (0 + i)) (fun i => a11 (0 + i)) fun i => a12 (0 + i)))) (dshw1 (AF.val (dshA a0 a1 a2 a3 a4 a5 (fun i => a6 (0 + i)) (fun i => a7 (0 + i)) a8 (fun i => a9 (0 + i)) (fun i => a10 (0 + i)) (fun i => a11 (0 + i)) fun i => a12 (0 + i)))) (dshw2 (AF.val (dshA a0 a1 a2 a3 a4 a5 (fun i => a6 (0 + i)) (fun i => a7 (0 + i)) a8 (fun i => a9 (0 + i)) (fun i => a10 (0 + i)) (fun i => a11 (0 + i)) fun i => a12 (0 + i)))) (dshw3 (AF.val (dshA a0 a1 a2 a3 a4 a5 (fun i => a6 (0 + i)) (fun i => a7 (0 + i)) a8 (fun i => a9 (0 + i)) (fun i => a10 (0 + i)) (fun i => a11 (0 + i)) fun i => a12 (0 + i)))) (dshw4 (AF.val (dshA a0 a1 a2 a3 a4 a5 (fun i => a6 (0 + i)) (fun i => a7 (0 + i)) a8 (fun i => a9 (0 + i)) (fun i => a10 (0 + i)) (fun i => a11 (0 + i)) fun i => a12 (0 + i)))) (dshw5 (AF.val (dshA a0 a1 a2 a3 a4 a5 (fun i => a6 (0 + i)) (fun i => a7 (0 + i)) a8 (fun i => a9 (0 + i)) (fun i => a10 (0 + i)) (fun i => a11 (0 + i)) fun i => a12 (0 + i)))) (fun i => a6 (0 + i)) (fun i => a7 (0 + i)) (dshw6 (AF.val (dshA a0 a1 a2 a3 a4 a5 (fun i => a6 (0 + i)) (fun i => a7 (0 + i)) a8 (fun i => a9 (0 + i)) (fun i => a10 (0 + i)) (fun i => a11 (0 + i)) fun i => a12 (0 + i)))) (fun i => a9 (0 + i)) (fun i => a10 (0 + i)) (fun i => a11 (0 + i)) (fun i => a12 (0 + i)) (dshw7 (AF.val (dshA a0 a1 a2 a3 a4 a5 (fun i => a6 (0 + i)) (fun i => a7 (0 + i)) a8 (fun i => a9 (0 + i)) (fun i => a10 (0 + i)) (fun i => a11 (0 + i)) fun i => a12 (0 + i)))) (-10000000000) 20000000000 a13 a14))
   (.ask (Cm.run Cm.lss (Prod.snd (Prod.snd (AF.val (drcA (dshw0 (AF.val (dshA a0 a1 a2 a3 a4 a5 (fun i => a6 (0 + i)) (fun i => a7 (0 + i)) a8 (fun i => a9 (0 + i)) (fun i => a10 (0 + i)) (fun i => a11 (0 + i)) fun i => a12 (0 + i)))) (dshw1 (AF.val (dshA a0 a1 a2 a3 a4 a5 (fun i => a6 (0 + i)) (fun i => a7 (0 + i)) a8 (fun i => a9 (0 + i)) (fun i => a10 (0 + i)) (fun i => a11 (0 + i)) fun i => a12 (0 + i)))) (dshw2 (AF.val (dshA a0 a1 a2 a3 a4 a5 (fun i => a6 (0 + i)) (fun i => a7 (0 + i)) a8 (fun i => a9 (0 + i)) (fun i => a10 (0 + i)) (fun i => a11 (0 + i)) fun i => a12 (0 + i)))) (dshw3 (AF.val (dshA a0 a1 a2 a3 a4 a5 (fun i => a6 (0 + i)) (fun i => a7 (0 + i)) a8 (fun i => a9 (0 + i)) (fun i => a10 (0 + i)) (fun i => a11 (0 + i)) fun i => a12 (0 + i)))) (dshw4 (AF.val (dshA a0 a1 a2 a3 a4 a5 (fun i => a6 (0 + i)) (fun i => a7 (0 + i)) a8 (fun i => a9 (0 + i)) (fun i => a10 (0 + i)) (fun i => a11 (0 + i)) fun i => a12 (0 + i)))) (dshw5 (AF.val (dshA a0 a1 a2 a3 a4 a5 (fun i => a6 (0 + i)) (fun i => a7 (0 + i)) a8 (fun i => a9 (0 + i)) (fun i => a10 (0 + i)) (fun i => a11 (0 + i)) fun i => a12 (0 + i)))) (fun i => a6 (0 + i)) (fun i => a7 (0 + i)) (dshw6 (AF.val (dshA a0 a1 a2 a3 a4 a5 (fun i => a6 (0 + i)) (fun i => a7 (0 + i)) a8 (fun i => a9 (0 + i)) (fun i => a10 (0 + i)) (fun i => a11 (0 + i)) fun i => a12 (0 + i)))) (fun i => a9 (0 + i)) (fun i => a10 (0 + i)) (fun i => a11 (0 + i)) (fun i => a12 (0 + i)) (dshw7 (AF.val (dshA a0 a1 a2 a3 a4 a5 (fun i => a6 (0 + i)) (fun i => a7 (0 + i)) a8 (fun i => a9 (0 + i)) (fun i => a10 (0 + i)) (fun i => a11 (0 + i)) fun i => a12 (0 + i)))) (-10000000000) 20000000000 a13 a14)))) a14)
   (.leaf (.done (0, 0, 9) []))
   (.leaf (.done (Prod.fst (AF.val (drcA (dshw0 (AF.val (dshA a0 a1 a2 a3 a4 a5 (fun i => a6 (0 + i)) (fun i => a7 (0 + i)) a8 (fun i => a9 (0 + i)) (fun i => a10 (0 + i)) (fun i => a11 (0 + i)) fun i => a12 (0 + i)))) (dshw1 (AF.val (dshA a0 a1 a2 a3 a4 a5 (fun i => a6 (0 + i)) (fun i => a7 (0 + i)) a8 (fun i => a9 (0 + i)) (fun i => a10 (0 + i)) (fun i => a11 (0 + i)) fun i => a12 (0 + i)))) (dshw2 (AF.val (dshA a0 a1 a2 a3 a4 a5 (fun i => a6 (0 + i)) (fun i => a7 (0 + i)) a8 (fun i => a9 (0 + i)) (fun i => a10 (0 + i)) (fun i => a11 (0 + i)) fun i => a12 (0 + i)))) (dshw3 (AF.val (dshA a0 a1 a2 a3 a4 a5 (fun i => a6 (0 + i)) (fun i => a7 (0 + i)) a8 (fun i => a9 (0 + i)) (fun i => a10 (0 + i)) (fun i => a11 (0 + i)) fun i => a12 (0 + i)))) (dshw4 (AF.val (dshA a0 a1 a2 a3 a4 a5 (fun i => a6 (0 + i)) (fun i => a7 (0 + i)) a8 (fun i => a9 (0 + i)) (fun i => a10 (0 + i)) (fun i => a11 (0 + i)) fun i => a12 (0 + i)))) (dshw5 (AF.val (dshA a0 a1 a2 a3 a4 a5 (fun i => a6 (0 + i)) (fun i => a7 (0 + i)) a8 (fun i => a9 (0 + i)) (fun i => a10 (0 + i)) (fun i => a11 (0 + i)) fun i => a12 (0 + i)))) (fun i => a6 (0 + i)) (fun i => a7 (0 + i)) (dshw6 (AF.val (dshA a0 a1 a2 a3 a4 a5 (fun i => a6 (0 + i)) (fun i => a7 (0 + i)) a8 (fun i => a9 (0 + i)) (fun i => a10 (0 + i)) (fun i => a11 (0 + i)) fun i => a12 (0 + i)))) (fun i => a9 (0 + i)) (fun i => a10 (0 + i)) (fun i => a11 (0 + i)) (fun i => a12 (0 + i)) (dshw7 (AF.val (dshA a0 a1 a2 a3 a4 a5 (fun i => a6 (0 + i)) (fun i => a7 (0 + i)) a8 (fun i => a9 (0 + i)) (fun i => a10 (0 + i)) (fun i => a11 (0 + i)) fun i => a12 (0 + i)))) (-10000000000) 20000000000 a13 a14)), Prod.fst (Prod.snd (AF.val (drcA (dshw0 (AF.val (dshA a0 a1 a2 a3 a4 a5 (fun i => a6 (0 + i)) (fun i => a7 (0 + i)) a8 (fun i => a9 (0 + i)) (fun i => a10 (0 + i)) (fun i => a11 (0 + i)) fun i => a12 (0 + i)))) (dshw1 (AF.val (dshA a0 a1 a2 a3 a4 a5 (fun i => a6 (0 + i)) (fun i => a7 (0 + i)) a8 (fun i => a9 (0 + i)) (fun i => a10 (0 + i)) (fun i => a11 (0 + i)) fun i => a12 (0 + i)))) (dshw2 (AF.val (dshA a0 a1 a2 a3 a4 a5 (fun i => a6 (0 + i)) (fun i => a7 (0 + i)) a8 (fun i => a9 (0 + i)) (fun i => a10 (0 + i)) (fun i => a11 (0 + i)) fun i => a12 (0 + i)))) (dshw3 (AF.val (dshA a0 a1 a2 a3 a4 a5 (fun i => a6 (0 + i)) (fun i => a7 (0 + i)) a8 (fun i => a9 (0 + i)) (fun i => a10 (0 + i)) (fun i => a11 (0 + i)) fun i => a12 (0 + i)))) (dshw4 (AF.val (dshA a0 a1 a2 a3 a4 a5 (fun i => a6 (0 + i)) (fun i => a7 (0 + i)) a8 (fun i => a9 (0 + i)) (fun i => a10 (0 + i)) (fun i => a11 (0 + i)) fun i => a12 (0 + i)))) (dshw5 (AF.val (dshA a0 a1 a2 a3 a4 a5 (fun i => a6 (0 + i)) (fun i => a7 (0 + i)) a8 (fun i => a9 (0 + i)) (fun i => a10 (0 + i)) (fun i => a11 (0 + i)) fun i => a12 (0 + i)))) (fun i => a6 (0 + i)) (fun i => a7 (0 + i)) (dshw6 (AF.val (dshA a0 a1 a2 a3 a4 a5 (fun i => a6 (0 + i)) (fun i => a7 (0 + i)) a8 (fun i => a9 (0 + i)) (fun i => a10 (0 + i)) (fun i => a11 (0 + i)) fun i => a12 (0 + i)))) (fun i => a9 (0 + i)) (fun i => a10 (0 + i)) (fun i => a11 (0 + i)) (fun i => a12 (0 + i)) (dshw7 (AF.val (dshA a0 a1 a2 a3 a4 a5 (fun i => a6 (0 + i)) (fun i => a7 (0 + i)) a8 (fun i => a9 (0 + i)) (fun i => a10 (0 + i)) (fun i => a11 (0 + i)) fun i => a12 (0 + i)))) (-10000000000) 20000000000 a13 a14))), 0) []))))))))))))))))))

noncomputable def dtaD (a0 : Bool) (a1 : Int) (a2 : Int) (a3 : Int) (a4 : Int) (a5 : Nat) (a6 : Nat → Int) (a7 : Nat → Int) (a8 : Nat) (a9 : Nat → Int) (a10 : Nat → Int) (a11 : Nat → Int) (a12 : Nat → Int) (a13 : Int) (a14 : Int) : dtaN → DD (Lf dtaN dtaR) := fun a => nomatch a

noncomputable def dtaA (a0 : Bool) (a1 : Int) (a2 : Int) (a3 : Int) (a4 : Int) (a5 : Nat) (a6 : Nat → Int) (a7 : Nat → Int) (a8 : Nat) (a9 : Nat → Int) (a10 : Nat → Int) (a11 : Nat → Int) (a12 : Nat → Int) (a13 : Int) (a14 : Int) : AF dtaN dtaR where
  code := dtaCode
  base := 2
  nt := 50
  m := 400
  un := []
  W := []
  h0 := [(0, ⟨.arg a5 2 (fun i => [.int .i64 (.x (a6 i)), .int .i64 (.x (a7 i))]) (fun _ => ⟨rfl, rfl⟩), 2, true, none⟩), (1, ⟨.arg a8 4 (fun i => [.int .i64 (.x (a9 i)), .int .i64 (.x (a10 i)), .int .i64 (.x (a11 i)), .int .i64 (.x (a12 i))]) (fun _ => ⟨rfl, rfl⟩), 4, true, none⟩)]
  args := [.agg [.bool (.x a0), .int .i64 (.x a1), .int .i64 (.x a2), .int .i64 (.x a3), .int .i64 (.x a4), .sla 0 2 0 a5], .sla 1 4 0 a8, .int .i64 (.x a13), .int .i64 (.x a14)]
  res := (Try.f19).results.toList
  path := fun a => nomatch a
  pd := fun a => nomatch a
  D0 := dtaD0 a0 a1 a2 a3 a4 a5 a6 a7 a8 a9 a10 a11 a12 a13 a14
  D := dtaD a0 a1 a2 a3 a4 a5 a6 a7 a8 a9 a10 a11 a12 a13 a14
  rc := (fun v => .tup [.agg [.int .i64 (.x v.1), .int .i64 (.x v.2.1)], .int .i64 (.x v.2.2)])
  rh := (fun v => [])
  rn := (fun v => 2)
  rx := (fun v => [])
  rgo := (fun _ => none)


theorem dtastart (a0 : Bool) (a1 : Int) (a2 : Int) (a3 : Int) (a4 : Int) (a5 : Nat) (a6 : Nat → Int) (a7 : Nat → Int) (a8 : Nat) (a9 : Nat → Int) (a10 : Nat → Int) (a11 : Nat → Int) (a12 : Nat → Int) (a13 : Int) (a14 : Int) : AF.edgeOk (dtaA a0 a1 a2 a3 a4 a5 a6 a7 a8 a9 a10 a11 a12 a13 a14) (ctxOf Try.prog memo0) (dtaD0 a0 a1 a2 a3 a4 a5 a6 a7 a8 a9 a10 a11 a12 a13 a14) (AF.run0 (dtaA a0 a1 a2 a3 a4 a5 a6 a7 a8 a9 a10 a11 a12 a13 a14) (ctxOf Try.prog (memoS 67 drcP drcF drcW drcH 2 (memoP 63 dshP dshF dshW dshH 2 memo0)))) := by unfold AF.edgeOk; kernel_rfl

theorem dtaok (a0 : Bool) (a1 : Int) (a2 : Int) (a3 : Int) (a4 : Int) (a5 : Nat) (a6 : Nat → Int) (a7 : Nat → Int) (a8 : Nat) (a9 : Nat → Int) (a10 : Nat → Int) (a11 : Nat → Int) (a12 : Nat → Int) (a13 : Int) (a14 : Int) : (dtaA a0 a1 a2 a3 a4 a5 a6 a7 a8 a9 a10 a11 a12 a13 a14).Ok Try.prog (ctxOf Try.prog (memoS 67 drcP drcF drcW drcH 2 (memoP 63 dshP dshF dshW dshH 2 memo0))) where
  regs := by kernel_rfl
  h0 := by kernel_rfl
  start := dtastart a0 a1 a2 a3 a4 a5 a6 a7 a8 a9 a10 a11 a12 a13 a14
  node := fun a _ => nomatch a
  pd := fun a => nomatch a
  le := fun a => nomatch a
  rd := fun v => ⟨⟨fa_nil, fa_nil, fa_nil, rfl⟩, rfl⟩
  wb := rfl


theorem dtahR {ρ : Env} (a0 : Bool) (a1 : Int) (a2 : Int) (a3 : Int) (a4 : Int) (a5 : Nat) (a6 : Nat → Int) (a7 : Nat → Int) (a8 : Nat) (a9 : Nat → Int) (a10 : Nat → Int) (a11 : Nat → Int) (a12 : Nat → Int) (a13 : Int) (a14 : Int) (hM : MemoOk Try.prog (ctxOf Try.prog (memoS 67 drcP drcF drcW drcH 2 (memoP 63 dshP dshF dshW dshH 2 memo0))) ρ) : ∀ X a q n D, FxOk ρ X → X.base = (dtaA a0 a1 a2 a3 a4 a5 a6 a7 a8 a9 a10 a11 a12 a13 a14).base → X.nt = (dtaA a0 a1 a2 a3 a4 a5 a6 a7 a8 a9 a10 a11 a12 a13 a14).nt → X.W = (dtaA a0 a1 a2 a3 a4 a5 a6 a7 a8 a9 a10 a11 a12 a13 a14).W → (dtaA a0 a1 a2 a3 a4 a5 a6 a7 a8 a9 a10 a11 a12 a13 a14).rgo a = some q → q n = some D → (dtaA a0 a1 a2 a3 a4 a5 a6 a7 a8 a9 a10 a11 a12 a13 a14).RangeOk Try.prog ρ X a D := AF.noRange rfl

theorem dtactr {ρ : Env} (a0 : Bool) (a1 : Int) (a2 : Int) (a3 : Int) (a4 : Int) (a5 : Nat) (a6 : Nat → Int) (a7 : Nat → Int) (a8 : Nat) (a9 : Nat → Int) (a10 : Nat → Int) (a11 : Nat → Int) (a12 : Nat → Int) (a13 : Int) (a14 : Int) {n : Nat} {v : dtaR} (hM : MemoOk Try.prog (ctxOf Try.prog (memoS 67 drcP drcF drcW drcH 2 (memoP 63 dshP dshF dshW dshH 2 memo0))) ρ) (hv : (dtaA a0 a1 a2 a3 a4 a5 a6 a7 a8 a9 a10 a11 a12 a13 a14).run n = some v) :
    Ctr Try.prog ρ 19 (dtaA a0 a1 a2 a3 a4 a5 a6 a7 a8 a9 a10 a11 a12 a13 a14).args (dtaA a0 a1 a2 a3 a4 a5 a6 a7 a8 a9 a10 a11 a12 a13 a14).H0 (dtaA a0 a1 a2 a3 a4 a5 a6 a7 a8 a9 a10 a11 a12 a13 a14).base (dtaA a0 a1 a2 a3 a4 a5 a6 a7 a8 a9 a10 a11 a12 a13 a14).W ((dtaA a0 a1 a2 a3 a4 a5 a6 a7 a8 a9 a10 a11 a12 a13 a14).rc v) (putH (dtaA a0 a1 a2 a3 a4 a5 a6 a7 a8 a9 a10 a11 a12 a13 a14).H0 ((dtaA a0 a1 a2 a3 a4 a5 a6 a7 a8 a9 a10 a11 a12 a13 a14).rh v ++ (dtaA a0 a1 a2 a3 a4 a5 a6 a7 a8 a9 a10 a11 a12 a13 a14).rx v)) ((dtaA a0 a1 a2 a3 a4 a5 a6 a7 a8 a9 a10 a11 a12 a13 a14).rn v) :=
  AF.ctr try_ok hM (dtaok a0 a1 a2 a3 a4 a5 a6 a7 a8 a9 a10 a11 a12 a13 a14) (fn := Try.f19) Try.func19 rfl rfl (Nat.le_of_ble_eq_true rfl) rfl (dtahR a0 a1 a2 a3 a4 a5 a6 a7 a8 a9 a10 a11 a12 a13 a14 hM) hv


theorem dtamem {ρ : Env} : MemoOk Try.prog (ctxOf Try.prog (memoS 67 drcP drcF drcW drcH 2 (memoP 63 dshP dshF dshW dshH 2 memo0))) ρ := (memoS_ok (drcknown drcmem) (memoP_ok (dshknown dshmem) memo0_ok))


abbrev dtaP : List AQ := [.agg [.bool, .int .i64, .int .i64, .int .i64, .int .i64, .rows [some .i64, some .i64]], .rows [some .i64, some .i64, some .i64, some .i64], .int .i64, .int .i64]

noncomputable def dtaF (v : AW) : AF dtaN dtaR := dtaA (v.b.getD 0 false) (v.i.getD 0 0) (v.i.getD 1 0) (v.i.getD 2 0) (v.i.getD 3 0) (v.t.getD 0 .none).n ((v.t.getD 0 .none).c 0) ((v.t.getD 0 .none).c 1) (v.t.getD 1 .none).n ((v.t.getD 1 .none).c 0) ((v.t.getD 1 .none).c 1) ((v.t.getD 1 .none).c 2) ((v.t.getD 1 .none).c 3) (v.i.getD 4 0) (v.i.getD 5 0)

noncomputable def dtaW : dtaR → CV := fun v => .tup [.agg [.int .i64 (.x v.1), .int .i64 (.x v.2.1)], .int .i64 (.x v.2.2)]
noncomputable def dtaH : dtaR → List (Nat × Blk) := fun v => []



instance : Inhabited dtaR := ⟨(0, 0, 0)⟩
theorem dtaknown {ρ : Env} (hM : MemoOk Try.prog (ctxOf Try.prog (memoS 67 drcP drcF drcW drcH 2 (memoP 63 dshP dshF dshW dshH 2 memo0))) ρ) : KnownS Try.prog ρ 19 dtaP dtaF dtaW dtaH 2 where
  fn := ⟨Try.f19, Try.func19, rfl⟩
  le := Nat.le_of_ble_eq_true rfl
  full := fun r => rfl
  rg := fun r => rfl
  hg := fun r => fa_nil
  ctr := fun v n r h => dtactr (v.b.getD 0 false) (v.i.getD 0 0) (v.i.getD 1 0) (v.i.getD 2 0) (v.i.getD 3 0) (v.t.getD 0 .none).n ((v.t.getD 0 .none).c 0) ((v.t.getD 0 .none).c 1) (v.t.getD 1 .none).n ((v.t.getD 1 .none).c 0) ((v.t.getD 1 .none).c 1) ((v.t.getD 1 .none).c 2) ((v.t.getD 1 .none).c 3) (v.i.getD 4 0) (v.i.getD 5 0) hM h

end Go.Proofs.Ythagjhadjpangaa.Cx

/- acme/acmelaw07.unchanged as an automaton. Made by tools/cxauto.py. -/
namespace Go.Proofs.Ythagjhadjpangaa.Cx
set_option linter.unusedVariables false
set_option linter.unusedSimpArgs false
set_option maxRecDepth 100000
open Go Go.Proofs Go.RowKit

noncomputable abbrev duoCode : Code := funcCode Try.f20


inductive duoN where
  | n0 (p0 : Int)
  | n1 (p0 : Int)

abbrev duoR := Bool

noncomputable def duoD0 (a0 : Bool) (a1 : Int) (a2 : Int) (a3 : Int) (a4 : Int) (a5 : Nat) (a6 : Nat → Int) (a7 : Nat → Int) (a8 : Bool) (a9 : Int) (a10 : Int) (a11 : Int) (a12 : Int) (a13 : Nat) (a14 : Nat → Int) (a15 : Nat → Int) (a16 : Nat) (a17 : Nat → Int) (a18 : Nat → Int) (a19 : Nat → Int) (a20 : Nat → Int) (a21 : Nat) (a22 : Nat → Int) (a23 : Nat → Int) (a24 : Nat → Int) (a25 : Nat → Int) : DD (Lf duoN duoR) :=
 .ask (a0)
   (.ask (a8)
   (.ask (Cm.run Cm.eql a1 a9)
   (.ask (Cm.run Cm.eql a2 a10)
   (.ask (Cm.run Cm.eql a3 a11)
   (.ask (Cm.run Cm.eql a4 a12)
   (.ask (Cm.run Cm.neq (↑a5 : Int) (↑a13 : Int))
   (.leaf (.done false []))
   (.ask (Cm.run Cm.neq (↑a16 : Int) (↑a21 : Int))
   (.leaf (.done false []))
   (.leaf (.next (.n0 0) [4, 5]))))
   (.leaf (.done false [])))
   (.leaf (.done false [])))
   (.leaf (.done false [])))
   (.leaf (.done false [])))
   (.leaf (.done false [])))
   (.ask (a8)
   (.leaf (.done false []))
   (.ask (Cm.run Cm.eql a1 a9)
   (.ask (Cm.run Cm.eql a2 a10)
   (.ask (Cm.run Cm.eql a3 a11)
   (.ask (Cm.run Cm.eql a4 a12)
   (.ask (Cm.run Cm.neq (↑a5 : Int) (↑a13 : Int))
   (.leaf (.done false []))
   (.ask (Cm.run Cm.neq (↑a16 : Int) (↑a21 : Int))
   (.leaf (.done false []))
   (.leaf (.next (.n0 0) [4, 5]))))
   (.leaf (.done false [])))
   (.leaf (.done false [])))
   (.leaf (.done false [])))
   (.leaf (.done false []))))

noncomputable def duoD (a0 : Bool) (a1 : Int) (a2 : Int) (a3 : Int) (a4 : Int) (a5 : Nat) (a6 : Nat → Int) (a7 : Nat → Int) (a8 : Bool) (a9 : Int) (a10 : Int) (a11 : Int) (a12 : Int) (a13 : Nat) (a14 : Nat → Int) (a15 : Nat → Int) (a16 : Nat) (a17 : Nat → Int) (a18 : Nat → Int) (a19 : Nat → Int) (a20 : Nat → Int) (a21 : Nat) (a22 : Nat → Int) (a23 : Nat → Int) (a24 : Nat → Int) (a25 : Nat → Int) : duoN → DD (Lf duoN duoR)
 | .n0 p0 =>
 .ask (Cm.run Cm.lss p0 (↑a5 : Int))
   (.must (decide (0 ≤ p0))
   (.must (decide (p0 < (↑a5 : Int)))
   (.must (decide (0 + Int.toNat p0 < a5))
   (.must (decide (0 ≤ p0))
   (.must (decide (p0 < (↑a13 : Int)))
   (.must (decide (0 + Int.toNat p0 < a13))
   (.ask (Cm.run Cm.eql (a6 (0 + Int.toNat p0)) (a14 (0 + Int.toNat p0)))
   (.ask (Cm.run Cm.eql (a7 (0 + Int.toNat p0)) (a15 (0 + Int.toNat p0)))
   (.leaf (.next (.n0 (Ar.run Ar.add IntKind.i64 p0 1)) [4, 5]))
   (.leaf (.done false [])))
   (.leaf (.done false [])))))))))
   (.leaf (.next (.n1 0) []))
 | .n1 p0 =>
 .ask (Cm.run Cm.lss p0 (↑a16 : Int))
   (.must (decide (0 ≤ p0))
   (.must (decide (p0 < (↑a16 : Int)))
   (.must (decide (0 + Int.toNat p0 < a16))
   (.must (decide (0 ≤ p0))
   (.must (decide (p0 < (↑a21 : Int)))
   (.must (decide (0 + Int.toNat p0 < a21))
   (.ask (Cm.run Cm.eql (a17 (0 + Int.toNat p0)) (a22 (0 + Int.toNat p0)))
   (.ask (Cm.run Cm.eql (a18 (0 + Int.toNat p0)) (a23 (0 + Int.toNat p0)))
   (.ask (Cm.run Cm.eql (a19 (0 + Int.toNat p0)) (a24 (0 + Int.toNat p0)))
   (.ask (Cm.run Cm.eql (a20 (0 + Int.toNat p0)) (a25 (0 + Int.toNat p0)))
   (.leaf (.next (.n1 (Ar.run Ar.add IntKind.i64 p0 1)) []))
   (.leaf (.done false [])))
   (.leaf (.done false [])))
   (.leaf (.done false [])))
   (.leaf (.done false [])))))))))
   (.leaf (.done true []))

noncomputable def duoA (a0 : Bool) (a1 : Int) (a2 : Int) (a3 : Int) (a4 : Int) (a5 : Nat) (a6 : Nat → Int) (a7 : Nat → Int) (a8 : Bool) (a9 : Int) (a10 : Int) (a11 : Int) (a12 : Int) (a13 : Nat) (a14 : Nat → Int) (a15 : Nat → Int) (a16 : Nat) (a17 : Nat → Int) (a18 : Nat → Int) (a19 : Nat → Int) (a20 : Nat → Int) (a21 : Nat) (a22 : Nat → Int) (a23 : Nat → Int) (a24 : Nat → Int) (a25 : Nat → Int) : AF duoN duoR where
  code := duoCode
  base := 4
  nt := 79
  m := 400
  un := []
  W := []
  h0 := [(0, ⟨.arg a5 2 (fun i => [.int .i64 (.x (a6 i)), .int .i64 (.x (a7 i))]) (fun _ => ⟨rfl, rfl⟩), 2, true, none⟩), (1, ⟨.arg a13 2 (fun i => [.int .i64 (.x (a14 i)), .int .i64 (.x (a15 i))]) (fun _ => ⟨rfl, rfl⟩), 2, true, none⟩), (2, ⟨.arg a16 4 (fun i => [.int .i64 (.x (a17 i)), .int .i64 (.x (a18 i)), .int .i64 (.x (a19 i)), .int .i64 (.x (a20 i))]) (fun _ => ⟨rfl, rfl⟩), 4, true, none⟩), (3, ⟨.arg a21 4 (fun i => [.int .i64 (.x (a22 i)), .int .i64 (.x (a23 i)), .int .i64 (.x (a24 i)), .int .i64 (.x (a25 i))]) (fun _ => ⟨rfl, rfl⟩), 4, true, none⟩)]
  args := [.agg [.bool (.x a0), .int .i64 (.x a1), .int .i64 (.x a2), .int .i64 (.x a3), .int .i64 (.x a4), .sla 0 2 0 a5], .agg [.bool (.x a8), .int .i64 (.x a9), .int .i64 (.x a10), .int .i64 (.x a11), .int .i64 (.x a12), .sla 1 2 0 a13], .sla 2 4 0 a16, .sla 3 4 0 a21]
  res := (Try.f20).results.toList
  path := fun a => match a with
   | .n0 p0 => [1, 1, 0, 1, 0]
   | .n1 p0 => [1, 1, 1, 0, 1, 0]
  pd := fun a => match a with
   | .n0 p0 => ⟨[(2, .sla 2 4 0 a16), (3, .sla 3 4 0 a21), (4, .ptr (some (4, 0))), (5, .ptr (some (5, 0))), (9, .int .i64 (.x p0))], [(4, ⟨.lit [.bool (.x a0), .int .i64 (.x a1), .int .i64 (.x a2), .int .i64 (.x a3), .int .i64 (.x a4), .sla 0 2 0 a5], 0, true, none⟩), (5, ⟨.lit [.bool (.x a8), .int .i64 (.x a9), .int .i64 (.x a10), .int .i64 (.x a11), .int .i64 (.x a12), .sla 1 2 0 a13], 0, true, none⟩)], 6, []⟩
   | .n1 p0 => ⟨[(2, .sla 2 4 0 a16), (3, .sla 3 4 0 a21), (10, .int .i64 (.x p0))], [], 4, []⟩
  D0 := duoD0 a0 a1 a2 a3 a4 a5 a6 a7 a8 a9 a10 a11 a12 a13 a14 a15 a16 a17 a18 a19 a20 a21 a22 a23 a24 a25
  D := duoD a0 a1 a2 a3 a4 a5 a6 a7 a8 a9 a10 a11 a12 a13 a14 a15 a16 a17 a18 a19 a20 a21 a22 a23 a24 a25
  rc := (fun v => .bool (.x v))
  rh := (fun v => [])
  rn := (fun v => 4)
  rx := (fun v => [])
  rgo := (fun _ => none)


theorem duostart (a0 : Bool) (a1 : Int) (a2 : Int) (a3 : Int) (a4 : Int) (a5 : Nat) (a6 : Nat → Int) (a7 : Nat → Int) (a8 : Bool) (a9 : Int) (a10 : Int) (a11 : Int) (a12 : Int) (a13 : Nat) (a14 : Nat → Int) (a15 : Nat → Int) (a16 : Nat) (a17 : Nat → Int) (a18 : Nat → Int) (a19 : Nat → Int) (a20 : Nat → Int) (a21 : Nat) (a22 : Nat → Int) (a23 : Nat → Int) (a24 : Nat → Int) (a25 : Nat → Int) : AF.edgeOk (duoA a0 a1 a2 a3 a4 a5 a6 a7 a8 a9 a10 a11 a12 a13 a14 a15 a16 a17 a18 a19 a20 a21 a22 a23 a24 a25) (ctxOf Try.prog memo0) (duoD0 a0 a1 a2 a3 a4 a5 a6 a7 a8 a9 a10 a11 a12 a13 a14 a15 a16 a17 a18 a19 a20 a21 a22 a23 a24 a25) (AF.run0 (duoA a0 a1 a2 a3 a4 a5 a6 a7 a8 a9 a10 a11 a12 a13 a14 a15 a16 a17 a18 a19 a20 a21 a22 a23 a24 a25) (ctxOf Try.prog memo0)) := by unfold AF.edgeOk; kernel_rfl

theorem duonode0 (a0 : Bool) (a1 : Int) (a2 : Int) (a3 : Int) (a4 : Int) (a5 : Nat) (a6 : Nat → Int) (a7 : Nat → Int) (a8 : Bool) (a9 : Int) (a10 : Int) (a11 : Int) (a12 : Int) (a13 : Nat) (a14 : Nat → Int) (a15 : Nat → Int) (a16 : Nat) (a17 : Nat → Int) (a18 : Nat → Int) (a19 : Nat → Int) (a20 : Nat → Int) (a21 : Nat) (a22 : Nat → Int) (a23 : Nat → Int) (a24 : Nat → Int) (a25 : Nat → Int) (p0 : Int) : AF.edgeOk (duoA a0 a1 a2 a3 a4 a5 a6 a7 a8 a9 a10 a11 a12 a13 a14 a15 a16 a17 a18 a19 a20 a21 a22 a23 a24 a25) (ctxOf Try.prog memo0) (duoD a0 a1 a2 a3 a4 a5 a6 a7 a8 a9 a10 a11 a12 a13 a14 a15 a16 a17 a18 a19 a20 a21 a22 a23 a24 a25 (.n0 p0)) (AF.runN (duoA a0 a1 a2 a3 a4 a5 a6 a7 a8 a9 a10 a11 a12 a13 a14 a15 a16 a17 a18 a19 a20 a21 a22 a23 a24 a25) (ctxOf Try.prog memo0) (.n0 p0)) := by unfold AF.edgeOk; kernel_rfl

theorem duonode1 (a0 : Bool) (a1 : Int) (a2 : Int) (a3 : Int) (a4 : Int) (a5 : Nat) (a6 : Nat → Int) (a7 : Nat → Int) (a8 : Bool) (a9 : Int) (a10 : Int) (a11 : Int) (a12 : Int) (a13 : Nat) (a14 : Nat → Int) (a15 : Nat → Int) (a16 : Nat) (a17 : Nat → Int) (a18 : Nat → Int) (a19 : Nat → Int) (a20 : Nat → Int) (a21 : Nat) (a22 : Nat → Int) (a23 : Nat → Int) (a24 : Nat → Int) (a25 : Nat → Int) (p0 : Int) : AF.edgeOk (duoA a0 a1 a2 a3 a4 a5 a6 a7 a8 a9 a10 a11 a12 a13 a14 a15 a16 a17 a18 a19 a20 a21 a22 a23 a24 a25) (ctxOf Try.prog memo0) (duoD a0 a1 a2 a3 a4 a5 a6 a7 a8 a9 a10 a11 a12 a13 a14 a15 a16 a17 a18 a19 a20 a21 a22 a23 a24 a25 (.n1 p0)) (AF.runN (duoA a0 a1 a2 a3 a4 a5 a6 a7 a8 a9 a10 a11 a12 a13 a14 a15 a16 a17 a18 a19 a20 a21 a22 a23 a24 a25) (ctxOf Try.prog memo0) (.n1 p0)) := by unfold AF.edgeOk; kernel_rfl

theorem duook (a0 : Bool) (a1 : Int) (a2 : Int) (a3 : Int) (a4 : Int) (a5 : Nat) (a6 : Nat → Int) (a7 : Nat → Int) (a8 : Bool) (a9 : Int) (a10 : Int) (a11 : Int) (a12 : Int) (a13 : Nat) (a14 : Nat → Int) (a15 : Nat → Int) (a16 : Nat) (a17 : Nat → Int) (a18 : Nat → Int) (a19 : Nat → Int) (a20 : Nat → Int) (a21 : Nat) (a22 : Nat → Int) (a23 : Nat → Int) (a24 : Nat → Int) (a25 : Nat → Int) : (duoA a0 a1 a2 a3 a4 a5 a6 a7 a8 a9 a10 a11 a12 a13 a14 a15 a16 a17 a18 a19 a20 a21 a22 a23 a24 a25).Ok Try.prog (ctxOf Try.prog memo0) where
  regs := by kernel_rfl
  h0 := by kernel_rfl
  start := duostart a0 a1 a2 a3 a4 a5 a6 a7 a8 a9 a10 a11 a12 a13 a14 a15 a16 a17 a18 a19 a20 a21 a22 a23 a24 a25
  node := fun a _ => match a with
   | .n0 p0 => duonode0 a0 a1 a2 a3 a4 a5 a6 a7 a8 a9 a10 a11 a12 a13 a14 a15 a16 a17 a18 a19 a20 a21 a22 a23 a24 a25 p0
   | .n1 p0 => duonode1 a0 a1 a2 a3 a4 a5 a6 a7 a8 a9 a10 a11 a12 a13 a14 a15 a16 a17 a18 a19 a20 a21 a22 a23 a24 a25 p0
  pd := fun a => match a with
   | .n0 p0 => ⟨(fa_cons rfl (fa_cons rfl (fa_cons rfl (fa_cons rfl (fa_cons rfl fa_nil))))), (fa_cons ⟨.inl (Nat.le_of_ble_eq_true rfl), rfl, rfl⟩ (fa_cons ⟨.inl (Nat.le_of_ble_eq_true rfl), rfl, rfl⟩ fa_nil)), fa_nil, rfl⟩
   | .n1 p0 => ⟨(fa_cons rfl (fa_cons rfl (fa_cons rfl fa_nil))), fa_nil, fa_nil, rfl⟩
  le := fun a => match a with
   | .n0 p0 => Nat.le_of_ble_eq_true rfl
   | .n1 p0 => Nat.le_of_ble_eq_true rfl
  rd := fun v => ⟨⟨fa_nil, fa_nil, fa_nil, rfl⟩, rfl⟩
  wb := rfl


theorem duohR {ρ : Env} (a0 : Bool) (a1 : Int) (a2 : Int) (a3 : Int) (a4 : Int) (a5 : Nat) (a6 : Nat → Int) (a7 : Nat → Int) (a8 : Bool) (a9 : Int) (a10 : Int) (a11 : Int) (a12 : Int) (a13 : Nat) (a14 : Nat → Int) (a15 : Nat → Int) (a16 : Nat) (a17 : Nat → Int) (a18 : Nat → Int) (a19 : Nat → Int) (a20 : Nat → Int) (a21 : Nat) (a22 : Nat → Int) (a23 : Nat → Int) (a24 : Nat → Int) (a25 : Nat → Int) (hM : MemoOk Try.prog (ctxOf Try.prog memo0) ρ) : ∀ X a q n D, FxOk ρ X → X.base = (duoA a0 a1 a2 a3 a4 a5 a6 a7 a8 a9 a10 a11 a12 a13 a14 a15 a16 a17 a18 a19 a20 a21 a22 a23 a24 a25).base → X.nt = (duoA a0 a1 a2 a3 a4 a5 a6 a7 a8 a9 a10 a11 a12 a13 a14 a15 a16 a17 a18 a19 a20 a21 a22 a23 a24 a25).nt → X.W = (duoA a0 a1 a2 a3 a4 a5 a6 a7 a8 a9 a10 a11 a12 a13 a14 a15 a16 a17 a18 a19 a20 a21 a22 a23 a24 a25).W → (duoA a0 a1 a2 a3 a4 a5 a6 a7 a8 a9 a10 a11 a12 a13 a14 a15 a16 a17 a18 a19 a20 a21 a22 a23 a24 a25).rgo a = some q → q n = some D → (duoA a0 a1 a2 a3 a4 a5 a6 a7 a8 a9 a10 a11 a12 a13 a14 a15 a16 a17 a18 a19 a20 a21 a22 a23 a24 a25).RangeOk Try.prog ρ X a D := AF.noRange rfl

theorem duoctr {ρ : Env} (a0 : Bool) (a1 : Int) (a2 : Int) (a3 : Int) (a4 : Int) (a5 : Nat) (a6 : Nat → Int) (a7 : Nat → Int) (a8 : Bool) (a9 : Int) (a10 : Int) (a11 : Int) (a12 : Int) (a13 : Nat) (a14 : Nat → Int) (a15 : Nat → Int) (a16 : Nat) (a17 : Nat → Int) (a18 : Nat → Int) (a19 : Nat → Int) (a20 : Nat → Int) (a21 : Nat) (a22 : Nat → Int) (a23 : Nat → Int) (a24 : Nat → Int) (a25 : Nat → Int) {n : Nat} {v : duoR} (hM : MemoOk Try.prog (ctxOf Try.prog memo0) ρ) (hv : (duoA a0 a1 a2 a3 a4 a5 a6 a7 a8 a9 a10 a11 a12 a13 a14 a15 a16 a17 a18 a19 a20 a21 a22 a23 a24 a25).run n = some v) :
    Ctr Try.prog ρ 20 (duoA a0 a1 a2 a3 a4 a5 a6 a7 a8 a9 a10 a11 a12 a13 a14 a15 a16 a17 a18 a19 a20 a21 a22 a23 a24 a25).args (duoA a0 a1 a2 a3 a4 a5 a6 a7 a8 a9 a10 a11 a12 a13 a14 a15 a16 a17 a18 a19 a20 a21 a22 a23 a24 a25).H0 (duoA a0 a1 a2 a3 a4 a5 a6 a7 a8 a9 a10 a11 a12 a13 a14 a15 a16 a17 a18 a19 a20 a21 a22 a23 a24 a25).base (duoA a0 a1 a2 a3 a4 a5 a6 a7 a8 a9 a10 a11 a12 a13 a14 a15 a16 a17 a18 a19 a20 a21 a22 a23 a24 a25).W ((duoA a0 a1 a2 a3 a4 a5 a6 a7 a8 a9 a10 a11 a12 a13 a14 a15 a16 a17 a18 a19 a20 a21 a22 a23 a24 a25).rc v) (putH (duoA a0 a1 a2 a3 a4 a5 a6 a7 a8 a9 a10 a11 a12 a13 a14 a15 a16 a17 a18 a19 a20 a21 a22 a23 a24 a25).H0 ((duoA a0 a1 a2 a3 a4 a5 a6 a7 a8 a9 a10 a11 a12 a13 a14 a15 a16 a17 a18 a19 a20 a21 a22 a23 a24 a25).rh v ++ (duoA a0 a1 a2 a3 a4 a5 a6 a7 a8 a9 a10 a11 a12 a13 a14 a15 a16 a17 a18 a19 a20 a21 a22 a23 a24 a25).rx v)) ((duoA a0 a1 a2 a3 a4 a5 a6 a7 a8 a9 a10 a11 a12 a13 a14 a15 a16 a17 a18 a19 a20 a21 a22 a23 a24 a25).rn v) :=
  AF.ctr try_ok hM (duook a0 a1 a2 a3 a4 a5 a6 a7 a8 a9 a10 a11 a12 a13 a14 a15 a16 a17 a18 a19 a20 a21 a22 a23 a24 a25) (fn := Try.f20) Try.func20 rfl rfl (Nat.le_of_ble_eq_true rfl) rfl (duohR a0 a1 a2 a3 a4 a5 a6 a7 a8 a9 a10 a11 a12 a13 a14 a15 a16 a17 a18 a19 a20 a21 a22 a23 a24 a25 hM) hv


theorem duomem {ρ : Env} : MemoOk Try.prog (ctxOf Try.prog memo0) ρ := memo0_ok


abbrev duoP : List AQ := [.agg [.bool, .int .i64, .int .i64, .int .i64, .int .i64, .rows [some .i64, some .i64]], .agg [.bool, .int .i64, .int .i64, .int .i64, .int .i64, .rows [some .i64, some .i64]], .rows [some .i64, some .i64, some .i64, some .i64], .rows [some .i64, some .i64, some .i64, some .i64]]

noncomputable def duoF (v : AW) : AF duoN duoR := duoA (v.b.getD 0 false) (v.i.getD 0 0) (v.i.getD 1 0) (v.i.getD 2 0) (v.i.getD 3 0) (v.t.getD 0 .none).n ((v.t.getD 0 .none).c 0) ((v.t.getD 0 .none).c 1) (v.b.getD 1 false) (v.i.getD 4 0) (v.i.getD 5 0) (v.i.getD 6 0) (v.i.getD 7 0) (v.t.getD 1 .none).n ((v.t.getD 1 .none).c 0) ((v.t.getD 1 .none).c 1) (v.t.getD 2 .none).n ((v.t.getD 2 .none).c 0) ((v.t.getD 2 .none).c 1) ((v.t.getD 2 .none).c 2) ((v.t.getD 2 .none).c 3) (v.t.getD 3 .none).n ((v.t.getD 3 .none).c 0) ((v.t.getD 3 .none).c 1) ((v.t.getD 3 .none).c 2) ((v.t.getD 3 .none).c 3)

noncomputable def duoW : duoR → CV := fun v => .bool (.x v)
noncomputable def duoH : duoR → List (Nat × Blk) := fun v => []



instance : Inhabited duoR := ⟨false⟩
theorem duoknown {ρ : Env} (hM : MemoOk Try.prog (ctxOf Try.prog memo0) ρ) : KnownS Try.prog ρ 20 duoP duoF duoW duoH 4 where
  fn := ⟨Try.f20, Try.func20, rfl⟩
  le := Nat.le_of_ble_eq_true rfl
  full := fun r => rfl
  rg := fun r => rfl
  hg := fun r => fa_nil
  ctr := fun v n r h => duoctr (v.b.getD 0 false) (v.i.getD 0 0) (v.i.getD 1 0) (v.i.getD 2 0) (v.i.getD 3 0) (v.t.getD 0 .none).n ((v.t.getD 0 .none).c 0) ((v.t.getD 0 .none).c 1) (v.b.getD 1 false) (v.i.getD 4 0) (v.i.getD 5 0) (v.i.getD 6 0) (v.i.getD 7 0) (v.t.getD 1 .none).n ((v.t.getD 1 .none).c 0) ((v.t.getD 1 .none).c 1) (v.t.getD 2 .none).n ((v.t.getD 2 .none).c 0) ((v.t.getD 2 .none).c 1) ((v.t.getD 2 .none).c 2) ((v.t.getD 2 .none).c 3) (v.t.getD 3 .none).n ((v.t.getD 3 .none).c 0) ((v.t.getD 3 .none).c 1) ((v.t.getD 3 .none).c 2) ((v.t.getD 3 .none).c 3) hM h

end Go.Proofs.Ythagjhadjpangaa.Cx
