/- acme/bolt.Learn as an automaton. Made by tools/cxauto.py. -/
import Derived.Test.YtknphpihipkdpaaCxZS
import Derived.Test.YtknphpihipkdpaaCxRg
import Derived.Test.YtknphpihipkdpaaCxTry
set_option linter.unusedVariables false
set_option linter.unusedSimpArgs false
set_option maxRecDepth 100000
namespace Go.Proofs.Ytknphpihipkdpaa.Cx
open Go Go.Proofs Go.RowKit

noncomputable abbrev ablCode : Code := funcCode Try.f41


inductive ablN where
  | n0 (p0 : Int) (p1 : Int) (p2 : Int) (p3 : Int) (p4 : Int) (p5 : Int)

abbrev ablR := Int × Int × Int × Int × Int

noncomputable def ablD0 (a0 : Int) (a1 : Int) (a2 : Int) (a3 : Int) (a4 : Int) (a5 : Int) (a6 : Int) (a7 : Int) (a8 : Int) (a9 : Int) (a10 : Int) (a11 : Int) (a12 : Int) (a13 : Int) (a14 : Int) (a15 : Int) (a16 : Int) : DD (Lf ablN ablR) :=
 .ask (Cm.run Cm.gtr a0 0)
   (.ask (Cm.run Cm.lss a0 0)
   (.leaf (.done (0, 0, 0, 0, 2) []))
   (.ask (Cm.run Cm.gtr a0 100000)
   (.leaf (.done (0, 0, 0, 0, 2) []))
   (.ask (Cm.run Cm.lss a1 0)
   (.leaf (.done (0, 0, 0, 0, 2) []))
   (.ask (Cm.run Cm.gtr a1 100000)
   (.leaf (.done (0, 0, 0, 0, 2) []))
   (.ask (Cm.run Cm.lss a2 0)
   (.leaf (.done (0, 0, 0, 0, 2) []))
   (.ask (Cm.run Cm.gtr a2 100000)
   (.leaf (.done (0, 0, 0, 0, 2) []))
   (.ask (Cm.run Cm.leq 0 a3)
   (.ask (Cm.run Cm.leq a3 a4)
   (.ask (Cm.run Cm.leq a4 1000)
   (.ask (Cm.run Cm.leq 0 a5)
   (.ask (Cm.run Cm.leq a5 a6)
   (.ask (Cm.run Cm.leq a6 1000)
   (.ask (Cm.run Cm.leq 1 a7)
   (.ask (Cm.run Cm.leq a7 a8)
   (.ask (Cm.run Cm.leq a8 100000000)
   (.ask (Cm.run Cm.leq 1 a9)
   (.ask (Cm.run Cm.leq a9 a10)
   (.ask (Cm.run Cm.leq a10 100000)
   (.ask (Cm.run Cm.leq 1 a11)
   (.ask (Cm.run Cm.leq a11 a12)
   (.ask (Cm.run Cm.leq a12 100000000)
   (.ask (Cm.run Cm.leq 0 a13)
   (.ask (Cm.run Cm.leq a13 a14)
   (.ask (Cm.run Cm.leq a14 10000000000000)
   (.ask (Cm.run Cm.leq 0 a15)
   (.ask (Cm.run Cm.leq a15 a16)
   (.ask (Cm.run Cm.leq a16 100000000)
   (.must (Cm.run Cm.neq (Ar.run Ar.add IntKind.i64 a16 1) 0)
   (.ask (Cm.run Cm.gtr a15 0)
   (.must (Cm.run Cm.neq a15 0)
   (.leaf (.next (.n0 a3 1000 0 1000 0 (Ar.run Ar.mn IntKind.i64 (Ar.run Ar.add IntKind.i64 (Ar.run Ar.add IntKind.i64 (Ar.run Ar.mul IntKind.i64 a1 a4) (Ar.run Ar.mul IntKind.i64 a2 a6)) (Ar.run Ar.mul IntKind.i64 1000 a0)) (Ar.run Ar.quo IntKind.i64 (Ar.run Ar.mul IntKind.i64 1000 a14) a15))) [3, 4, 23, 42])))
   (.leaf (.next (.n0 a3 1000 0 1000 0 (Ar.run Ar.add IntKind.i64 (Ar.run Ar.add IntKind.i64 (Ar.run Ar.mul IntKind.i64 a1 a4) (Ar.run Ar.mul IntKind.i64 a2 a6)) (Ar.run Ar.mul IntKind.i64 1000 a0))) [3, 4, 23, 42]))))
   (.leaf (.done (0, 0, 0, 0, 3) [])))
   (.leaf (.done (0, 0, 0, 0, 3) [])))
   (.leaf (.done (0, 0, 0, 0, 3) [])))
   (.leaf (.done (0, 0, 0, 0, 3) [])))
   (.leaf (.done (0, 0, 0, 0, 3) [])))
   (.leaf (.done (0, 0, 0, 0, 3) [])))
   (.leaf (.done (0, 0, 0, 0, 2) [])))
   (.leaf (.done (0, 0, 0, 0, 2) [])))
   (.leaf (.done (0, 0, 0, 0, 2) [])))
   (.leaf (.done (0, 0, 0, 0, 2) [])))
   (.leaf (.done (0, 0, 0, 0, 2) [])))
   (.leaf (.done (0, 0, 0, 0, 2) [])))
   (.leaf (.done (0, 0, 0, 0, 2) [])))
   (.leaf (.done (0, 0, 0, 0, 2) [])))
   (.leaf (.done (0, 0, 0, 0, 2) [])))
   (.leaf (.done (0, 0, 0, 0, 2) [])))
   (.leaf (.done (0, 0, 0, 0, 2) [])))
   (.leaf (.done (0, 0, 0, 0, 2) [])))
   (.leaf (.done (0, 0, 0, 0, 2) [])))
   (.leaf (.done (0, 0, 0, 0, 2) [])))
   (.leaf (.done (0, 0, 0, 0, 2) [])))))))))
   (.leaf (.done (0, 0, 0, 0, 2) []))

noncomputable def ablD (a0 : Int) (a1 : Int) (a2 : Int) (a3 : Int) (a4 : Int) (a5 : Int) (a6 : Int) (a7 : Int) (a8 : Int) (a9 : Int) (a10 : Int) (a11 : Int) (a12 : Int) (a13 : Int) (a14 : Int) (a15 : Int) (a16 : Int) : ablN → DD (Lf ablN ablR)
 | .n0 p0 p1 p2 p3 p4 p5 =>
 .ask (Cm.run Cm.leq p0 a4)
   (.ask (Cm.run Cm.gtr a2 0)
   (.must (Cm.run Cm.neq a2 0)
   (.must (Cm.run Cm.neq a2 0)
   (.ask (Cm.run Cm.gtr (Ar.run Ar.rem IntKind.i64 (Ar.run Ar.add IntKind.i64 (Ar.run Ar.mx IntKind.i64 (Ar.run Ar.add IntKind.i64 (Ar.run Ar.add IntKind.i64 (Ar.run Ar.mul IntKind.i64 a1 a3) (Ar.run Ar.mul IntKind.i64 a2 a5)) (Ar.run Ar.mul IntKind.i64 1000 a0)) (Ar.run Ar.add IntKind.i64 (Ar.run Ar.quo IntKind.i64 (Ar.run Ar.mul IntKind.i64 1000 a13) (Ar.run Ar.add IntKind.i64 a16 1)) 1)) (Ar.run Ar.sub IntKind.i64 0 (Ar.run Ar.add IntKind.i64 (Ar.run Ar.mul IntKind.i64 1000 a0) (Ar.run Ar.add IntKind.i64 (Ar.run Ar.mul IntKind.i64 a1 p0) (Ar.run Ar.mul IntKind.i64 a2 0))))) a2) 0)
   (.must (Cm.run Cm.neq a2 0)
   (.must (Cm.run Cm.neq a2 0)
   (.ask (Cm.run Cm.gtr (Ar.run Ar.rem IntKind.i64 (Ar.run Ar.sub IntKind.i64 0 (Ar.run Ar.add IntKind.i64 p5 (Ar.run Ar.sub IntKind.i64 0 (Ar.run Ar.add IntKind.i64 (Ar.run Ar.mul IntKind.i64 1000 a0) (Ar.run Ar.add IntKind.i64 (Ar.run Ar.mul IntKind.i64 a1 p0) (Ar.run Ar.mul IntKind.i64 a2 0)))))) a2) 0)
   (.ask (Cm.run Cm.leq (Ar.run Ar.mx IntKind.i64 a5 (Ar.run Ar.add IntKind.i64 (Ar.run Ar.quo IntKind.i64 (Ar.run Ar.add IntKind.i64 (Ar.run Ar.mx IntKind.i64 (Ar.run Ar.add IntKind.i64 (Ar.run Ar.add IntKind.i64 (Ar.run Ar.mul IntKind.i64 a1 a3) (Ar.run Ar.mul IntKind.i64 a2 a5)) (Ar.run Ar.mul IntKind.i64 1000 a0)) (Ar.run Ar.add IntKind.i64 (Ar.run Ar.quo IntKind.i64 (Ar.run Ar.mul IntKind.i64 1000 a13) (Ar.run Ar.add IntKind.i64 a16 1)) 1)) (Ar.run Ar.sub IntKind.i64 0 (Ar.run Ar.add IntKind.i64 (Ar.run Ar.mul IntKind.i64 1000 a0) (Ar.run Ar.add IntKind.i64 (Ar.run Ar.mul IntKind.i64 a1 p0) (Ar.run Ar.mul IntKind.i64 a2 0))))) a2) 1)) (Ar.run Ar.mn IntKind.i64 a6 (Ar.run Ar.sub IntKind.i64 0 (Ar.run Ar.add IntKind.i64 (Ar.run Ar.quo IntKind.i64 (Ar.run Ar.sub IntKind.i64 0 (Ar.run Ar.add IntKind.i64 p5 (Ar.run Ar.sub IntKind.i64 0 (Ar.run Ar.add IntKind.i64 (Ar.run Ar.mul IntKind.i64 1000 a0) (Ar.run Ar.add IntKind.i64 (Ar.run Ar.mul IntKind.i64 a1 p0) (Ar.run Ar.mul IntKind.i64 a2 0)))))) a2) 1))))
   (.leaf (.next (.n0 (Ar.run Ar.add IntKind.i64 p0 1) (Ar.run Ar.mn IntKind.i64 p1 p0) (Ar.run Ar.mx IntKind.i64 p2 p0) (Ar.run Ar.mn IntKind.i64 p3 (Ar.run Ar.mx IntKind.i64 a5 (Ar.run Ar.add IntKind.i64 (Ar.run Ar.quo IntKind.i64 (Ar.run Ar.add IntKind.i64 (Ar.run Ar.mx IntKind.i64 (Ar.run Ar.add IntKind.i64 (Ar.run Ar.add IntKind.i64 (Ar.run Ar.mul IntKind.i64 a1 a3) (Ar.run Ar.mul IntKind.i64 a2 a5)) (Ar.run Ar.mul IntKind.i64 1000 a0)) (Ar.run Ar.add IntKind.i64 (Ar.run Ar.quo IntKind.i64 (Ar.run Ar.mul IntKind.i64 1000 a13) (Ar.run Ar.add IntKind.i64 a16 1)) 1)) (Ar.run Ar.sub IntKind.i64 0 (Ar.run Ar.add IntKind.i64 (Ar.run Ar.mul IntKind.i64 1000 a0) (Ar.run Ar.add IntKind.i64 (Ar.run Ar.mul IntKind.i64 a1 p0) (Ar.run Ar.mul IntKind.i64 a2 0))))) a2) 1))) (Ar.run Ar.mx IntKind.i64 p4 (Ar.run Ar.mn IntKind.i64 a6 (Ar.run Ar.sub IntKind.i64 0 (Ar.run Ar.add IntKind.i64 (Ar.run Ar.quo IntKind.i64 (Ar.run Ar.sub IntKind.i64 0 (Ar.run Ar.add IntKind.i64 p5 (Ar.run Ar.sub IntKind.i64 0 (Ar.run Ar.add IntKind.i64 (Ar.run Ar.mul IntKind.i64 1000 a0) (Ar.run Ar.add IntKind.i64 (Ar.run Ar.mul IntKind.i64 a1 p0) (Ar.run Ar.mul IntKind.i64 a2 0)))))) a2) 1)))) p5) [0, 1, 2, 3]))
   (.leaf (.next (.n0 (Ar.run Ar.add IntKind.i64 p0 1) p1 p2 p3 p4 p5) [0, 1, 2, 3])))
   (.ask (Cm.run Cm.leq (Ar.run Ar.mx IntKind.i64 a5 (Ar.run Ar.add IntKind.i64 (Ar.run Ar.quo IntKind.i64 (Ar.run Ar.add IntKind.i64 (Ar.run Ar.mx IntKind.i64 (Ar.run Ar.add IntKind.i64 (Ar.run Ar.add IntKind.i64 (Ar.run Ar.mul IntKind.i64 a1 a3) (Ar.run Ar.mul IntKind.i64 a2 a5)) (Ar.run Ar.mul IntKind.i64 1000 a0)) (Ar.run Ar.add IntKind.i64 (Ar.run Ar.quo IntKind.i64 (Ar.run Ar.mul IntKind.i64 1000 a13) (Ar.run Ar.add IntKind.i64 a16 1)) 1)) (Ar.run Ar.sub IntKind.i64 0 (Ar.run Ar.add IntKind.i64 (Ar.run Ar.mul IntKind.i64 1000 a0) (Ar.run Ar.add IntKind.i64 (Ar.run Ar.mul IntKind.i64 a1 p0) (Ar.run Ar.mul IntKind.i64 a2 0))))) a2) 1)) (Ar.run Ar.mn IntKind.i64 a6 (Ar.run Ar.sub IntKind.i64 0 (Ar.run Ar.quo IntKind.i64 (Ar.run Ar.sub IntKind.i64 0 (Ar.run Ar.add IntKind.i64 p5 (Ar.run Ar.sub IntKind.i64 0 (Ar.run Ar.add IntKind.i64 (Ar.run Ar.mul IntKind.i64 1000 a0) (Ar.run Ar.add IntKind.i64 (Ar.run Ar.mul IntKind.i64 a1 p0) (Ar.run Ar.mul IntKind.i64 a2 0)))))) a2))))
   (.leaf (.next (.n0 (Ar.run Ar.add IntKind.i64 p0 1) (Ar.run Ar.mn IntKind.i64 p1 p0) (Ar.run Ar.mx IntKind.i64 p2 p0) (Ar.run Ar.mn IntKind.i64 p3 (Ar.run Ar.mx IntKind.i64 a5 (Ar.run Ar.add IntKind.i64 (Ar.run Ar.quo IntKind.i64 (Ar.run Ar.add IntKind.i64 (Ar.run Ar.mx IntKind.i64 (Ar.run Ar.add IntKind.i64 (Ar.run Ar.add IntKind.i64 (Ar.run Ar.mul IntKind.i64 a1 a3) (Ar.run Ar.mul IntKind.i64 a2 a5)) (Ar.run Ar.mul IntKind.i64 1000 a0)) (Ar.run Ar.add IntKind.i64 (Ar.run Ar.quo IntKind.i64 (Ar.run Ar.mul IntKind.i64 1000 a13) (Ar.run Ar.add IntKind.i64 a16 1)) 1)) (Ar.run Ar.sub IntKind.i64 0 (Ar.run Ar.add IntKind.i64 (Ar.run Ar.mul IntKind.i64 1000 a0) (Ar.run Ar.add IntKind.i64 (Ar.run Ar.mul IntKind.i64 a1 p0) (Ar.run Ar.mul IntKind.i64 a2 0))))) a2) 1))) (Ar.run Ar.mx IntKind.i64 p4 (Ar.run Ar.mn IntKind.i64 a6 (Ar.run Ar.sub IntKind.i64 0 (Ar.run Ar.quo IntKind.i64 (Ar.run Ar.sub IntKind.i64 0 (Ar.run Ar.add IntKind.i64 p5 (Ar.run Ar.sub IntKind.i64 0 (Ar.run Ar.add IntKind.i64 (Ar.run Ar.mul IntKind.i64 1000 a0) (Ar.run Ar.add IntKind.i64 (Ar.run Ar.mul IntKind.i64 a1 p0) (Ar.run Ar.mul IntKind.i64 a2 0)))))) a2)))) p5) [0, 1, 2, 3]))
   (.leaf (.next (.n0 (Ar.run Ar.add IntKind.i64 p0 1) p1 p2 p3 p4 p5) [0, 1, 2, 3]))))))
   (.must (Cm.run Cm.neq a2 0)
   (.must (Cm.run Cm.neq a2 0)
   (.ask (Cm.run Cm.gtr (Ar.run Ar.rem IntKind.i64 (Ar.run Ar.sub IntKind.i64 0 (Ar.run Ar.add IntKind.i64 p5 (Ar.run Ar.sub IntKind.i64 0 (Ar.run Ar.add IntKind.i64 (Ar.run Ar.mul IntKind.i64 1000 a0) (Ar.run Ar.add IntKind.i64 (Ar.run Ar.mul IntKind.i64 a1 p0) (Ar.run Ar.mul IntKind.i64 a2 0)))))) a2) 0)
   (.ask (Cm.run Cm.leq (Ar.run Ar.mx IntKind.i64 a5 (Ar.run Ar.quo IntKind.i64 (Ar.run Ar.add IntKind.i64 (Ar.run Ar.mx IntKind.i64 (Ar.run Ar.add IntKind.i64 (Ar.run Ar.add IntKind.i64 (Ar.run Ar.mul IntKind.i64 a1 a3) (Ar.run Ar.mul IntKind.i64 a2 a5)) (Ar.run Ar.mul IntKind.i64 1000 a0)) (Ar.run Ar.add IntKind.i64 (Ar.run Ar.quo IntKind.i64 (Ar.run Ar.mul IntKind.i64 1000 a13) (Ar.run Ar.add IntKind.i64 a16 1)) 1)) (Ar.run Ar.sub IntKind.i64 0 (Ar.run Ar.add IntKind.i64 (Ar.run Ar.mul IntKind.i64 1000 a0) (Ar.run Ar.add IntKind.i64 (Ar.run Ar.mul IntKind.i64 a1 p0) (Ar.run Ar.mul IntKind.i64 a2 0))))) a2)) (Ar.run Ar.mn IntKind.i64 a6 (Ar.run Ar.sub IntKind.i64 0 (Ar.run Ar.add IntKind.i64 (Ar.run Ar.quo IntKind.i64 (Ar.run Ar.sub IntKind.i64 0 (Ar.run Ar.add IntKind.i64 p5 (Ar.run Ar.sub IntKind.i64 0 (Ar.run Ar.add IntKind.i64 (Ar.run Ar.mul IntKind.i64 1000 a0) (Ar.run Ar.add IntKind.i64 (Ar.run Ar.mul IntKind.i64 a1 p0) (Ar.run Ar.mul IntKind.i64 a2 0)))))) a2) 1))))
   (.leaf (.next (.n0 (Ar.run Ar.add IntKind.i64 p0 1) (Ar.run Ar.mn IntKind.i64 p1 p0) (Ar.run Ar.mx IntKind.i64 p2 p0) (Ar.run Ar.mn IntKind.i64 p3 (Ar.run Ar.mx IntKind.i64 a5 (Ar.run Ar.quo IntKind.i64 (Ar.run Ar.add IntKind.i64 (Ar.run Ar.mx IntKind.i64 (Ar.run Ar.add IntKind.i64 (Ar.run Ar.add IntKind.i64 (Ar.run Ar.mul IntKind.i64 a1 a3) (Ar.run Ar.mul IntKind.i64 a2 a5)) (Ar.run Ar.mul IntKind.i64 1000 a0)) (Ar.run Ar.add IntKind.i64 (Ar.run Ar.quo IntKind.i64 (Ar.run Ar.mul IntKind.i64 1000 a13) (Ar.run Ar.add IntKind.i64 a16 1)) 1)) (Ar.run Ar.sub IntKind.i64 0 (Ar.run Ar.add IntKind.i64 (Ar.run Ar.mul IntKind.i64 1000 a0) (Ar.run Ar.add IntKind.i64 (Ar.run Ar.mul IntKind.i64 a1 p0) (Ar.run Ar.mul IntKind.i64 a2 0))))) a2))) (Ar.run Ar.mx IntKind.i64 p4 (Ar.run Ar.mn IntKind.i64 a6 (Ar.run Ar.sub IntKind.i64 0 (Ar.run Ar.add IntKind.i64 (Ar.run Ar.quo IntKind.i64 (Ar.run Ar.sub IntKind.i64 0 (Ar.run Ar.add IntKind.i64 p5 (Ar.run Ar.sub IntKind.i64 0 (Ar.run Ar.add IntKind.i64 (Ar.run Ar.mul IntKind.i64 1000 a0) (Ar.run Ar.add IntKind.i64 (Ar.run Ar.mul IntKind.i64 a1 p0) (Ar.run Ar.mul IntKind.i64 a2 0)))))) a2) 1)))) p5) [0, 1, 2, 3]))
   (.leaf (.next (.n0 (Ar.run Ar.add IntKind.i64 p0 1) p1 p2 p3 p4 p5) [0, 1, 2, 3])))
   (.ask (Cm.run Cm.leq (Ar.run Ar.mx IntKind.i64 a5 (Ar.run Ar.quo IntKind.i64 (Ar.run Ar.add IntKind.i64 (Ar.run Ar.mx IntKind.i64 (Ar.run Ar.add IntKind.i64 (Ar.run Ar.add IntKind.i64 (Ar.run Ar.mul IntKind.i64 a1 a3) (Ar.run Ar.mul IntKind.i64 a2 a5)) (Ar.run Ar.mul IntKind.i64 1000 a0)) (Ar.run Ar.add IntKind.i64 (Ar.run Ar.quo IntKind.i64 (Ar.run Ar.mul IntKind.i64 1000 a13) (Ar.run Ar.add IntKind.i64 a16 1)) 1)) (Ar.run Ar.sub IntKind.i64 0 (Ar.run Ar.add IntKind.i64 (Ar.run Ar.mul IntKind.i64 1000 a0) (Ar.run Ar.add IntKind.i64 (Ar.run Ar.mul IntKind.i64 a1 p0) (Ar.run Ar.mul IntKind.i64 a2 0))))) a2)) (Ar.run Ar.mn IntKind.i64 a6 (Ar.run Ar.sub IntKind.i64 0 (Ar.run Ar.quo IntKind.i64 (Ar.run Ar.sub IntKind.i64 0 (Ar.run Ar.add IntKind.i64 p5 (Ar.run Ar.sub IntKind.i64 0 (Ar.run Ar.add IntKind.i64 (Ar.run Ar.mul IntKind.i64 1000 a0) (Ar.run Ar.add IntKind.i64 (Ar.run Ar.mul IntKind.i64 a1 p0) (Ar.run Ar.mul IntKind.i64 a2 0)))))) a2))))
   (.leaf (.next (.n0 (Ar.run Ar.add IntKind.i64 p0 1) (Ar.run Ar.mn IntKind.i64 p1 p0) (Ar.run Ar.mx IntKind.i64 p2 p0) (Ar.run Ar.mn IntKind.i64 p3 (Ar.run Ar.mx IntKind.i64 a5 (Ar.run Ar.quo IntKind.i64 (Ar.run Ar.add IntKind.i64 (Ar.run Ar.mx IntKind.i64 (Ar.run Ar.add IntKind.i64 (Ar.run Ar.add IntKind.i64 (Ar.run Ar.mul IntKind.i64 a1 a3) (Ar.run Ar.mul IntKind.i64 a2 a5)) (Ar.run Ar.mul IntKind.i64 1000 a0)) (Ar.run Ar.add IntKind.i64 (Ar.run Ar.quo IntKind.i64 (Ar.run Ar.mul IntKind.i64 1000 a13) (Ar.run Ar.add IntKind.i64 a16 1)) 1)) (Ar.run Ar.sub IntKind.i64 0 (Ar.run Ar.add IntKind.i64 (Ar.run Ar.mul IntKind.i64 1000 a0) (Ar.run Ar.add IntKind.i64 (Ar.run Ar.mul IntKind.i64 a1 p0) (Ar.run Ar.mul IntKind.i64 a2 0))))) a2))) (Ar.run Ar.mx IntKind.i64 p4 (Ar.run Ar.mn IntKind.i64 a6 (Ar.run Ar.sub IntKind.i64 0 (Ar.run Ar.quo IntKind.i64 (Ar.run Ar.sub IntKind.i64 0 (Ar.run Ar.add IntKind.i64 p5 (Ar.run Ar.sub IntKind.i64 0 (Ar.run Ar.add IntKind.i64 (Ar.run Ar.mul IntKind.i64 1000 a0) (Ar.run Ar.add IntKind.i64 (Ar.run Ar.mul IntKind.i64 a1 p0) (Ar.run Ar.mul IntKind.i64 a2 0)))))) a2)))) p5) [0, 1, 2, 3]))
   (.leaf (.next (.n0 (Ar.run Ar.add IntKind.i64 p0 1) p1 p2 p3 p4 p5) [0, 1, 2, 3])))))))))
   (.ask (Cm.run Cm.lss 0 (Ar.run Ar.add IntKind.i64 (Ar.run Ar.mx IntKind.i64 (Ar.run Ar.add IntKind.i64 (Ar.run Ar.add IntKind.i64 (Ar.run Ar.mul IntKind.i64 a1 a3) (Ar.run Ar.mul IntKind.i64 a2 a5)) (Ar.run Ar.mul IntKind.i64 1000 a0)) (Ar.run Ar.add IntKind.i64 (Ar.run Ar.quo IntKind.i64 (Ar.run Ar.mul IntKind.i64 1000 a13) (Ar.run Ar.add IntKind.i64 a16 1)) 1)) (Ar.run Ar.sub IntKind.i64 0 (Ar.run Ar.add IntKind.i64 (Ar.run Ar.mul IntKind.i64 1000 a0) (Ar.run Ar.add IntKind.i64 (Ar.run Ar.mul IntKind.i64 a1 p0) (Ar.run Ar.mul IntKind.i64 a2 0))))))
   (.leaf (.next (.n0 (Ar.run Ar.add IntKind.i64 p0 1) p1 p2 p3 p4 p5) [0, 1, 2, 3]))
   (.ask (Cm.run Cm.gtr 0 (Ar.run Ar.add IntKind.i64 p5 (Ar.run Ar.sub IntKind.i64 0 (Ar.run Ar.add IntKind.i64 (Ar.run Ar.mul IntKind.i64 1000 a0) (Ar.run Ar.add IntKind.i64 (Ar.run Ar.mul IntKind.i64 a1 p0) (Ar.run Ar.mul IntKind.i64 a2 0))))))
   (.leaf (.next (.n0 (Ar.run Ar.add IntKind.i64 p0 1) p1 p2 p3 p4 p5) [0, 1, 2, 3]))
   (.ask (Cm.run Cm.leq a5 a6)
   (.leaf (.next (.n0 (Ar.run Ar.add IntKind.i64 p0 1) (Ar.run Ar.mn IntKind.i64 p1 p0) (Ar.run Ar.mx IntKind.i64 p2 p0) (Ar.run Ar.mn IntKind.i64 p3 a5) (Ar.run Ar.mx IntKind.i64 p4 a6) p5) [0, 1, 2, 3]))
   (.leaf (.next (.n0 (Ar.run Ar.add IntKind.i64 p0 1) p1 p2 p3 p4 p5) [0, 1, 2, 3]))))))
   (.ask (Cm.run Cm.gtr p1 p2)
   (.leaf (.done (0, 0, 0, 0, 9) []))
   (.leaf (.done (p1, p2, p3, p4, 0) [])))

noncomputable def ablA (a0 : Int) (a1 : Int) (a2 : Int) (a3 : Int) (a4 : Int) (a5 : Int) (a6 : Int) (a7 : Int) (a8 : Int) (a9 : Int) (a10 : Int) (a11 : Int) (a12 : Int) (a13 : Int) (a14 : Int) (a15 : Int) (a16 : Int) : AF ablN ablR where
  code := ablCode
  base := 0
  nt := 77
  m := 400
  un := []
  W := []
  h0 := []
  args := [.agg [.int .i64 (.x a0), .int .i64 (.x a1), .int .i64 (.x a2), .int .i64 (.x a3), .int .i64 (.x a4), .int .i64 (.x a5), .int .i64 (.x a6), .int .i64 (.x a7), .int .i64 (.x a8), .int .i64 (.x a9), .int .i64 (.x a10), .int .i64 (.x a11), .int .i64 (.x a12)], .agg [.int .i64 (.x a13), .int .i64 (.x a14)], .agg [.int .i64 (.x a15), .int .i64 (.x a16)]]
  res := (Try.f41).results.toList
  path := fun a => match a with
   | .n0 p0 p1 p2 p3 p4 p5 => [1, 1, 1, 1, 1, 1, 0, 1, 0]
  pd := fun a => match a with
   | .n0 p0 p1 p2 p3 p4 p5 => ⟨[(6, .ptr (some (0, 0))), (7, .ptr (some (1, 0))), (9, .ptr (some (2, 0))), (10, .ptr (some (3, 0))), (11, .int .i64 (.x p0)), (23, .agg [.int .i64 (.x a13), .int .i64 (.x a14)])], [(0, ⟨.lit [.int .i64 (.x p1), .int .i64 (.x p2)], 0, true, none⟩), (1, ⟨.lit [.int .i64 (.x p3), .int .i64 (.x p4)], 0, true, none⟩), (2, ⟨.lit [.int .i64 (.x a0), .int .i64 (.x a1), .int .i64 (.x a2), .int .i64 (.x a3), .int .i64 (.x a4), .int .i64 (.x a5), .int .i64 (.x a6), .int .i64 (.x a7), .int .i64 (.x a8), .int .i64 (.x a9), .int .i64 (.x a10), .int .i64 (.x a11), .int .i64 (.x a12)], 0, true, none⟩), (3, ⟨.lit [.int .i64 (.x (Ar.run Ar.mx IntKind.i64 (Ar.run Ar.add IntKind.i64 (Ar.run Ar.add IntKind.i64 (Ar.run Ar.mul IntKind.i64 a1 a3) (Ar.run Ar.mul IntKind.i64 a2 a5)) (Ar.run Ar.mul IntKind.i64 1000 a0)) (Ar.run Ar.add IntKind.i64 (Ar.run Ar.quo IntKind.i64 (Ar.run Ar.mul IntKind.i64 1000 a13) (Ar.run Ar.add IntKind.i64 a16 1)) 1))), .int .i64 (.x p5)], 0, true, none⟩)], 4, []⟩
  D0 := ablD0 a0 a1 a2 a3 a4 a5 a6 a7 a8 a9 a10 a11 a12 a13 a14 a15 a16
  D := ablD a0 a1 a2 a3 a4 a5 a6 a7 a8 a9 a10 a11 a12 a13 a14 a15 a16
  rc := (fun v => .tup [.agg [.int .i64 (.x v.1), .int .i64 (.x v.2.1)], .agg [.int .i64 (.x v.2.2.1), .int .i64 (.x v.2.2.2.1)], .int .i64 (.x v.2.2.2.2)])
  rh := (fun v => [])
  rn := (fun v => 0)
  rx := (fun v => [])
  rgo := (fun _ => none)


theorem ablstart (a0 : Int) (a1 : Int) (a2 : Int) (a3 : Int) (a4 : Int) (a5 : Int) (a6 : Int) (a7 : Int) (a8 : Int) (a9 : Int) (a10 : Int) (a11 : Int) (a12 : Int) (a13 : Int) (a14 : Int) (a15 : Int) (a16 : Int) : AF.edgeOk (ablA a0 a1 a2 a3 a4 a5 a6 a7 a8 a9 a10 a11 a12 a13 a14 a15 a16) (ctxOf Try.prog memo0) (ablD0 a0 a1 a2 a3 a4 a5 a6 a7 a8 a9 a10 a11 a12 a13 a14 a15 a16) (AF.run0 (ablA a0 a1 a2 a3 a4 a5 a6 a7 a8 a9 a10 a11 a12 a13 a14 a15 a16) (ctxOf Try.prog memo0)) := by unfold AF.edgeOk; kernel_rfl

theorem ablnode0 (a0 : Int) (a1 : Int) (a2 : Int) (a3 : Int) (a4 : Int) (a5 : Int) (a6 : Int) (a7 : Int) (a8 : Int) (a9 : Int) (a10 : Int) (a11 : Int) (a12 : Int) (a13 : Int) (a14 : Int) (a15 : Int) (a16 : Int) (p0 : Int) (p1 : Int) (p2 : Int) (p3 : Int) (p4 : Int) (p5 : Int) : AF.edgeOk (ablA a0 a1 a2 a3 a4 a5 a6 a7 a8 a9 a10 a11 a12 a13 a14 a15 a16) (ctxOf Try.prog memo0) (ablD a0 a1 a2 a3 a4 a5 a6 a7 a8 a9 a10 a11 a12 a13 a14 a15 a16 (.n0 p0 p1 p2 p3 p4 p5)) (AF.runN (ablA a0 a1 a2 a3 a4 a5 a6 a7 a8 a9 a10 a11 a12 a13 a14 a15 a16) (ctxOf Try.prog memo0) (.n0 p0 p1 p2 p3 p4 p5)) := by unfold AF.edgeOk; kernel_rfl

theorem ablok (a0 : Int) (a1 : Int) (a2 : Int) (a3 : Int) (a4 : Int) (a5 : Int) (a6 : Int) (a7 : Int) (a8 : Int) (a9 : Int) (a10 : Int) (a11 : Int) (a12 : Int) (a13 : Int) (a14 : Int) (a15 : Int) (a16 : Int) : (ablA a0 a1 a2 a3 a4 a5 a6 a7 a8 a9 a10 a11 a12 a13 a14 a15 a16).Ok Try.prog (ctxOf Try.prog memo0) where
  regs := by kernel_rfl
  h0 := by kernel_rfl
  start := ablstart a0 a1 a2 a3 a4 a5 a6 a7 a8 a9 a10 a11 a12 a13 a14 a15 a16
  node := fun a _ => match a with
   | .n0 p0 p1 p2 p3 p4 p5 => ablnode0 a0 a1 a2 a3 a4 a5 a6 a7 a8 a9 a10 a11 a12 a13 a14 a15 a16 p0 p1 p2 p3 p4 p5
  pd := fun a => match a with
   | .n0 p0 p1 p2 p3 p4 p5 => ⟨(fa_cons rfl (fa_cons rfl (fa_cons rfl (fa_cons rfl (fa_cons rfl (fa_cons rfl fa_nil)))))), (fa_cons ⟨.inl (Nat.le_of_ble_eq_true rfl), rfl, rfl⟩ (fa_cons ⟨.inl (Nat.le_of_ble_eq_true rfl), rfl, rfl⟩ (fa_cons ⟨.inl (Nat.le_of_ble_eq_true rfl), rfl, rfl⟩ (fa_cons ⟨.inl (Nat.le_of_ble_eq_true rfl), rfl, rfl⟩ fa_nil)))), fa_nil, rfl⟩
  le := fun a => match a with
   | .n0 p0 p1 p2 p3 p4 p5 => Nat.le_of_ble_eq_true rfl
  rd := fun v => ⟨⟨fa_nil, fa_nil, fa_nil, rfl⟩, rfl⟩
  wb := rfl


theorem ablhR {ρ : Env} (a0 : Int) (a1 : Int) (a2 : Int) (a3 : Int) (a4 : Int) (a5 : Int) (a6 : Int) (a7 : Int) (a8 : Int) (a9 : Int) (a10 : Int) (a11 : Int) (a12 : Int) (a13 : Int) (a14 : Int) (a15 : Int) (a16 : Int) (hM : MemoOk Try.prog (ctxOf Try.prog memo0) ρ) : ∀ X a q n D, FxOk ρ X → X.base = (ablA a0 a1 a2 a3 a4 a5 a6 a7 a8 a9 a10 a11 a12 a13 a14 a15 a16).base → X.nt = (ablA a0 a1 a2 a3 a4 a5 a6 a7 a8 a9 a10 a11 a12 a13 a14 a15 a16).nt → X.W = (ablA a0 a1 a2 a3 a4 a5 a6 a7 a8 a9 a10 a11 a12 a13 a14 a15 a16).W → (ablA a0 a1 a2 a3 a4 a5 a6 a7 a8 a9 a10 a11 a12 a13 a14 a15 a16).rgo a = some q → q n = some D → (ablA a0 a1 a2 a3 a4 a5 a6 a7 a8 a9 a10 a11 a12 a13 a14 a15 a16).RangeOk Try.prog ρ X a D := AF.noRange rfl

theorem ablctr {ρ : Env} (a0 : Int) (a1 : Int) (a2 : Int) (a3 : Int) (a4 : Int) (a5 : Int) (a6 : Int) (a7 : Int) (a8 : Int) (a9 : Int) (a10 : Int) (a11 : Int) (a12 : Int) (a13 : Int) (a14 : Int) (a15 : Int) (a16 : Int) {n : Nat} {v : ablR} (hM : MemoOk Try.prog (ctxOf Try.prog memo0) ρ) (hv : (ablA a0 a1 a2 a3 a4 a5 a6 a7 a8 a9 a10 a11 a12 a13 a14 a15 a16).run n = some v) :
    Ctr Try.prog ρ 41 (ablA a0 a1 a2 a3 a4 a5 a6 a7 a8 a9 a10 a11 a12 a13 a14 a15 a16).args (ablA a0 a1 a2 a3 a4 a5 a6 a7 a8 a9 a10 a11 a12 a13 a14 a15 a16).H0 (ablA a0 a1 a2 a3 a4 a5 a6 a7 a8 a9 a10 a11 a12 a13 a14 a15 a16).base (ablA a0 a1 a2 a3 a4 a5 a6 a7 a8 a9 a10 a11 a12 a13 a14 a15 a16).W ((ablA a0 a1 a2 a3 a4 a5 a6 a7 a8 a9 a10 a11 a12 a13 a14 a15 a16).rc v) (putH (ablA a0 a1 a2 a3 a4 a5 a6 a7 a8 a9 a10 a11 a12 a13 a14 a15 a16).H0 ((ablA a0 a1 a2 a3 a4 a5 a6 a7 a8 a9 a10 a11 a12 a13 a14 a15 a16).rh v ++ (ablA a0 a1 a2 a3 a4 a5 a6 a7 a8 a9 a10 a11 a12 a13 a14 a15 a16).rx v)) ((ablA a0 a1 a2 a3 a4 a5 a6 a7 a8 a9 a10 a11 a12 a13 a14 a15 a16).rn v) :=
  AF.ctr try_ok hM (ablok a0 a1 a2 a3 a4 a5 a6 a7 a8 a9 a10 a11 a12 a13 a14 a15 a16) (fn := Try.f41) Try.func41 rfl rfl (Nat.le_of_ble_eq_true rfl) rfl (ablhR a0 a1 a2 a3 a4 a5 a6 a7 a8 a9 a10 a11 a12 a13 a14 a15 a16 hM) hv


abbrev ablP : List AP := [.agg [.int .i64, .int .i64, .int .i64, .int .i64, .int .i64, .int .i64, .int .i64, .int .i64, .int .i64, .int .i64, .int .i64, .int .i64, .int .i64], .agg [.int .i64, .int .i64], .agg [.int .i64, .int .i64]]
noncomputable def ablF (v : AV) : AF ablN ablR := ablA (v.i.getD 0 0) (v.i.getD 1 0) (v.i.getD 2 0) (v.i.getD 3 0) (v.i.getD 4 0) (v.i.getD 5 0) (v.i.getD 6 0) (v.i.getD 7 0) (v.i.getD 8 0) (v.i.getD 9 0) (v.i.getD 10 0) (v.i.getD 11 0) (v.i.getD 12 0) (v.i.getD 13 0) (v.i.getD 14 0) (v.i.getD 15 0) (v.i.getD 16 0)
theorem ablknown {ρ : Env} (hM : MemoOk Try.prog (ctxOf Try.prog memo0) ρ) : KnownA Try.prog ρ 41 ablP ablF where
  fn := ⟨Try.f41, Try.func41, rfl⟩
  args := fun v => rfl
  plain := fun v r => rfl
  ctr := fun v n r h => ablctr (v.i.getD 0 0) (v.i.getD 1 0) (v.i.getD 2 0) (v.i.getD 3 0) (v.i.getD 4 0) (v.i.getD 5 0) (v.i.getD 6 0) (v.i.getD 7 0) (v.i.getD 8 0) (v.i.getD 9 0) (v.i.getD 10 0) (v.i.getD 11 0) (v.i.getD 12 0) (v.i.getD 13 0) (v.i.getD 14 0) (v.i.getD 15 0) (v.i.getD 16 0) hM h

end Go.Proofs.Ytknphpihipkdpaa.Cx
