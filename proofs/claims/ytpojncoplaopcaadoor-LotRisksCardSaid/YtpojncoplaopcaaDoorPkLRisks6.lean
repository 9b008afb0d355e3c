/- acme/acmelaw11.LotRisks as an automaton. Made by tools/cxauto.py. -/
import Derived.Test.YtpojncoplaopcaaDoorRows
import Derived.ProofKit
import Derived.LaidMore
import Derived.OpenShut
import Derived.Stop.Joined
import Derived.Test.YtpojncoplaopcaaDoorCards
import Derived.Test.YtpojncoplaopcaaDoorTie
import Derived.SevenTiedAt
import Derived.Test.YtpojncoplaopcaaDoorPkLRisks5

namespace Go.Proofs.YtpojncoplaopcaaDoor.Cx
set_option linter.unusedVariables false
set_option linter.unusedSimpArgs false
set_option maxRecDepth 100000
open Go Go.Proofs Go.RowKit

noncomputable abbrev llrCode : Code := funcCode Tryd.f5


inductive llrN where
  | n0 (p0 : Int) (p1 : Int) (p2 : Int)
  | n1 (p0 : Int) (p1 : Int) (p2 : Int)

abbrev llrR := Bool

noncomputable def llrD0 (a0 : Int) (a1 : Int) (a2 : Int) (a3 : Int) (a4 : Int) (a5 : Int) (a6 : Int) : DD (Lf llrN llrR) :=
 .must (Cm.run Cm.neq (Ar.run Ar.add IntKind.i64 2 (Ar.run Ar.rem IntKind.i64 (Ar.run Ar.conv IntKind.i64 a0 0) 29)) 0)
   (.must (Cm.run Cm.neq (Ar.run Ar.add IntKind.i64 1 (Ar.run Ar.rem IntKind.i64 (Ar.run Ar.conv IntKind.i64 a1 0) (Ar.run Ar.add IntKind.i64 2 (Ar.run Ar.rem IntKind.i64 (Ar.run Ar.conv IntKind.i64 a0 0) 29)))) 0)
   (.must (AF.fin (lplA (Ar.run Ar.add IntKind.i64 2 (Ar.run Ar.rem IntKind.i64 (Ar.run Ar.conv IntKind.i64 a0 0) 29)) (Ar.run Ar.rem IntKind.i64 (Ar.run Ar.conv IntKind.i64 a2 0) (Ar.run Ar.add IntKind.i64 1 (Ar.run Ar.rem IntKind.i64 (Ar.run Ar.conv IntKind.i64 a1 0) (Ar.run Ar.add IntKind.i64 2 (Ar.run Ar.rem IntKind.i64 (Ar.run Ar.conv IntKind.i64 a0 0) 29))))) (Ar.run Ar.add IntKind.i64 1 (Ar.run Ar.rem IntKind.i64 (Ar.run Ar.conv IntKind.i64 a1 0) (Ar.run Ar.add IntKind.i64 2 (Ar.run Ar.rem IntKind.i64 (Ar.run Ar.conv IntKind.i64 a0 0) 29)))) (Ar.run Ar.conv IntKind.i64 a3 0) 255 (Ar.run Ar.conv IntKind.i64 a4 0) 255))
   (.ask (Cm.run Cm.neq (Prod.snd (Prod.snd (AF.val (lplA (Ar.run Ar.add IntKind.i64 2 (Ar.run Ar.rem IntKind.i64 (Ar.run Ar.conv IntKind.i64 a0 0) 29)) (Ar.run Ar.rem IntKind.i64 (Ar.run Ar.conv IntKind.i64 a2 0) (Ar.run Ar.add IntKind.i64 1 (Ar.run Ar.rem IntKind.i64 (Ar.run Ar.conv IntKind.i64 a1 0) (Ar.run Ar.add IntKind.i64 2 (Ar.run Ar.rem IntKind.i64 (Ar.run Ar.conv IntKind.i64 a0 0) 29))))) (Ar.run Ar.add IntKind.i64 1 (Ar.run Ar.rem IntKind.i64 (Ar.run Ar.conv IntKind.i64 a1 0) (Ar.run Ar.add IntKind.i64 2 (Ar.run Ar.rem IntKind.i64 (Ar.run Ar.conv IntKind.i64 a0 0) 29)))) (Ar.run Ar.conv IntKind.i64 a3 0) 255 (Ar.run Ar.conv IntKind.i64 a4 0) 255)))) 0)
   (.leaf (.done false []))
   (.leaf (.next (.n0 0 (Prod.fst (AF.val (lplA (Ar.run Ar.add IntKind.i64 2 (Ar.run Ar.rem IntKind.i64 (Ar.run Ar.conv IntKind.i64 a0 0) 29)) (Ar.run Ar.rem IntKind.i64 (Ar.run Ar.conv IntKind.i64 a2 0) (Ar.run Ar.add IntKind.i64 1 (Ar.run Ar.rem IntKind.i64 (Ar.run Ar.conv IntKind.i64 a1 0) (Ar.run Ar.add IntKind.i64 2 (Ar.run Ar.rem IntKind.i64 (Ar.run Ar.conv IntKind.i64 a0 0) 29))))) (Ar.run Ar.add IntKind.i64 1 (Ar.run Ar.rem IntKind.i64 (Ar.run Ar.conv IntKind.i64 a1 0) (Ar.run Ar.add IntKind.i64 2 (Ar.run Ar.rem IntKind.i64 (Ar.run Ar.conv IntKind.i64 a0 0) 29)))) (Ar.run Ar.conv IntKind.i64 a3 0) 255 (Ar.run Ar.conv IntKind.i64 a4 0) 255))) (Prod.fst (Prod.snd (AF.val (lplA (Ar.run Ar.add IntKind.i64 2 (Ar.run Ar.rem IntKind.i64 (Ar.run Ar.conv IntKind.i64 a0 0) 29)) (Ar.run Ar.rem IntKind.i64 (Ar.run Ar.conv IntKind.i64 a2 0) (Ar.run Ar.add IntKind.i64 1 (Ar.run Ar.rem IntKind.i64 (Ar.run Ar.conv IntKind.i64 a1 0) (Ar.run Ar.add IntKind.i64 2 (Ar.run Ar.rem IntKind.i64 (Ar.run Ar.conv IntKind.i64 a0 0) 29))))) (Ar.run Ar.add IntKind.i64 1 (Ar.run Ar.rem IntKind.i64 (Ar.run Ar.conv IntKind.i64 a1 0) (Ar.run Ar.add IntKind.i64 2 (Ar.run Ar.rem IntKind.i64 (Ar.run Ar.conv IntKind.i64 a0 0) 29)))) (Ar.run Ar.conv IntKind.i64 a3 0) 255 (Ar.run Ar.conv IntKind.i64 a4 0) 255))))) [1, 2, 3, 4, 5, 6])))))

noncomputable def llrD (a0 : Int) (a1 : Int) (a2 : Int) (a3 : Int) (a4 : Int) (a5 : Int) (a6 : Int) : llrN → DD (Lf llrN llrR)
 | .n0 p0 p1 p2 =>
 .ask (Cm.run Cm.leq p0 (Ar.run Ar.add IntKind.i64 2 (Ar.run Ar.rem IntKind.i64 (Ar.run Ar.conv IntKind.i64 a0 0) 29)))
   (.ask (Cm.run Cm.leq p0 (Ar.run Ar.rem IntKind.i64 (Ar.run Ar.conv IntKind.i64 a2 0) (Ar.run Ar.add IntKind.i64 1 (Ar.run Ar.rem IntKind.i64 (Ar.run Ar.conv IntKind.i64 a1 0) (Ar.run Ar.add IntKind.i64 2 (Ar.run Ar.rem IntKind.i64 (Ar.run Ar.conv IntKind.i64 a0 0) 29))))))
   (.must (AF.fin (lcaA (Ar.run Ar.add IntKind.i64 2 (Ar.run Ar.rem IntKind.i64 (Ar.run Ar.conv IntKind.i64 a0 0) 29)) p0 p1 p2))
   (.ask (Cm.run Cm.neq (Prod.snd (Prod.snd (AF.val (lcaA (Ar.run Ar.add IntKind.i64 2 (Ar.run Ar.rem IntKind.i64 (Ar.run Ar.conv IntKind.i64 a0 0) 29)) p0 p1 p2)))) 0)
   (.leaf (.done false []))
   (.ask (Cm.run Cm.lss (Prod.fst (Prod.snd (AF.val (lcaA (Ar.run Ar.add IntKind.i64 2 (Ar.run Ar.rem IntKind.i64 (Ar.run Ar.conv IntKind.i64 a0 0) 29)) p0 p1 p2)))) 1)
   (.leaf (.done false []))
   (.ask (Cm.run Cm.lss (Prod.fst (AF.val (lcaA (Ar.run Ar.add IntKind.i64 2 (Ar.run Ar.rem IntKind.i64 (Ar.run Ar.conv IntKind.i64 a0 0) 29)) p0 p1 p2))) 0)
   (.leaf (.done false []))
   (.ask (Cm.run Cm.gtr (Prod.fst (AF.val (lcaA (Ar.run Ar.add IntKind.i64 2 (Ar.run Ar.rem IntKind.i64 (Ar.run Ar.conv IntKind.i64 a0 0) 29)) p0 p1 p2))) (Prod.fst (Prod.snd (AF.val (lcaA (Ar.run Ar.add IntKind.i64 2 (Ar.run Ar.rem IntKind.i64 (Ar.run Ar.conv IntKind.i64 a0 0) 29)) p0 p1 p2)))))
   (.leaf (.done false []))
   (.ask (Cm.run Cm.leq (Ar.run Ar.mul IntKind.i64 (Ar.run Ar.sub IntKind.i64 (Prod.fst (Prod.snd (AF.val (lcaA (Ar.run Ar.add IntKind.i64 2 (Ar.run Ar.rem IntKind.i64 (Ar.run Ar.conv IntKind.i64 a0 0) 29)) p0 p1 p2)))) (Prod.fst (AF.val (lcaA (Ar.run Ar.add IntKind.i64 2 (Ar.run Ar.rem IntKind.i64 (Ar.run Ar.conv IntKind.i64 a0 0) 29)) p0 p1 p2)))) 255) (Ar.run Ar.mul IntKind.i64 (Ar.run Ar.conv IntKind.i64 a3 0) (Prod.fst (Prod.snd (AF.val (lcaA (Ar.run Ar.add IntKind.i64 2 (Ar.run Ar.rem IntKind.i64 (Ar.run Ar.conv IntKind.i64 a0 0) 29)) p0 p1 p2))))))
   (.ask (Cm.run Cm.geq p0 (Ar.run Ar.add IntKind.i64 1 (Ar.run Ar.rem IntKind.i64 (Ar.run Ar.conv IntKind.i64 a1 0) (Ar.run Ar.add IntKind.i64 2 (Ar.run Ar.rem IntKind.i64 (Ar.run Ar.conv IntKind.i64 a0 0) 29)))))
   (.must (AF.fin (lcaA (Ar.run Ar.add IntKind.i64 2 (Ar.run Ar.rem IntKind.i64 (Ar.run Ar.conv IntKind.i64 a0 0) 29)) p0 p1 p2))
   (.ask (Cm.run Cm.neq (Prod.snd (Prod.snd (AF.val (lcaA (Ar.run Ar.add IntKind.i64 2 (Ar.run Ar.rem IntKind.i64 (Ar.run Ar.conv IntKind.i64 a0 0) 29)) p0 p1 p2)))) 0)
   (.leaf (.done false []))
   (.ask (Cm.run Cm.lss (Prod.fst (Prod.snd (AF.val (lcaA (Ar.run Ar.add IntKind.i64 2 (Ar.run Ar.rem IntKind.i64 (Ar.run Ar.conv IntKind.i64 a0 0) 29)) p0 p1 p2)))) 1)
   (.leaf (.done false []))
   (.ask (Cm.run Cm.lss (Prod.fst (AF.val (lcaA (Ar.run Ar.add IntKind.i64 2 (Ar.run Ar.rem IntKind.i64 (Ar.run Ar.conv IntKind.i64 a0 0) 29)) p0 p1 p2))) 0)
   (.leaf (.done false []))
   (.ask (Cm.run Cm.gtr (Prod.fst (AF.val (lcaA (Ar.run Ar.add IntKind.i64 2 (Ar.run Ar.rem IntKind.i64 (Ar.run Ar.conv IntKind.i64 a0 0) 29)) p0 p1 p2))) (Prod.fst (Prod.snd (AF.val (lcaA (Ar.run Ar.add IntKind.i64 2 (Ar.run Ar.rem IntKind.i64 (Ar.run Ar.conv IntKind.i64 a0 0) 29)) p0 p1 p2)))))
   (.leaf (.done false []))
   (.ask (Cm.run Cm.leq (Ar.run Ar.mul IntKind.i64 (Prod.fst (AF.val (lcaA (Ar.run Ar.add IntKind.i64 2 (Ar.run Ar.rem IntKind.i64 (Ar.run Ar.conv IntKind.i64 a0 0) 29)) p0 p1 p2))) 255) (Ar.run Ar.mul IntKind.i64 (Ar.run Ar.conv IntKind.i64 a4 0) (Prod.fst (Prod.snd (AF.val (lcaA (Ar.run Ar.add IntKind.i64 2 (Ar.run Ar.rem IntKind.i64 (Ar.run Ar.conv IntKind.i64 a0 0) 29)) p0 p1 p2))))))
   (.leaf (.next (.n0 (Ar.run Ar.add IntKind.i64 p0 1) p1 p2) [0, 1, 2, 3, 4, 5]))
   (.leaf (.done false []))))))))
   (.leaf (.next (.n0 (Ar.run Ar.add IntKind.i64 p0 1) p1 p2) [0, 1, 2, 3, 4, 5])))
   (.leaf (.done false []))))))))
   (.ask (Cm.run Cm.geq p0 (Ar.run Ar.add IntKind.i64 1 (Ar.run Ar.rem IntKind.i64 (Ar.run Ar.conv IntKind.i64 a1 0) (Ar.run Ar.add IntKind.i64 2 (Ar.run Ar.rem IntKind.i64 (Ar.run Ar.conv IntKind.i64 a0 0) 29)))))
   (.must (AF.fin (lcaA (Ar.run Ar.add IntKind.i64 2 (Ar.run Ar.rem IntKind.i64 (Ar.run Ar.conv IntKind.i64 a0 0) 29)) p0 p1 p2))
   (.ask (Cm.run Cm.neq (Prod.snd (Prod.snd (AF.val (lcaA (Ar.run Ar.add IntKind.i64 2 (Ar.run Ar.rem IntKind.i64 (Ar.run Ar.conv IntKind.i64 a0 0) 29)) p0 p1 p2)))) 0)
   (.leaf (.done false []))
   (.ask (Cm.run Cm.lss (Prod.fst (Prod.snd (AF.val (lcaA (Ar.run Ar.add IntKind.i64 2 (Ar.run Ar.rem IntKind.i64 (Ar.run Ar.conv IntKind.i64 a0 0) 29)) p0 p1 p2)))) 1)
   (.leaf (.done false []))
   (.ask (Cm.run Cm.lss (Prod.fst (AF.val (lcaA (Ar.run Ar.add IntKind.i64 2 (Ar.run Ar.rem IntKind.i64 (Ar.run Ar.conv IntKind.i64 a0 0) 29)) p0 p1 p2))) 0)
   (.leaf (.done false []))
   (.ask (Cm.run Cm.gtr (Prod.fst (AF.val (lcaA (Ar.run Ar.add IntKind.i64 2 (Ar.run Ar.rem IntKind.i64 (Ar.run Ar.conv IntKind.i64 a0 0) 29)) p0 p1 p2))) (Prod.fst (Prod.snd (AF.val (lcaA (Ar.run Ar.add IntKind.i64 2 (Ar.run Ar.rem IntKind.i64 (Ar.run Ar.conv IntKind.i64 a0 0) 29)) p0 p1 p2)))))
   (.leaf (.done false []))
   (.ask (Cm.run Cm.leq (Ar.run Ar.mul IntKind.i64 (Prod.fst (AF.val (lcaA (Ar.run Ar.add IntKind.i64 2 (Ar.run Ar.rem IntKind.i64 (Ar.run Ar.conv IntKind.i64 a0 0) 29)) p0 p1 p2))) 255) (Ar.run Ar.mul IntKind.i64 (Ar.run Ar.conv IntKind.i64 a4 0) (Prod.fst (Prod.snd (AF.val (lcaA (Ar.run Ar.add IntKind.i64 2 (Ar.run Ar.rem IntKind.i64 (Ar.run Ar.conv IntKind.i64 a0 0) 29)) p0 p1 p2))))))
   (.leaf (.next (.n0 (Ar.run Ar.add IntKind.i64 p0 1) p1 p2) [0, 1, 2, 3, 4, 5]))
   (.leaf (.done false []))))))))
   (.leaf (.next (.n0 (Ar.run Ar.add IntKind.i64 p0 1) p1 p2) [0, 1, 2, 3, 4, 5]))))
   (.leaf (.next (.n1 0 p1 p2) [0, 1, 2, 3, 4, 5]))
 | .n1 p0 p1 p2 =>
 .ask (Cm.run Cm.lss p0 p1)
   (.must (AF.fin (lcaA (Ar.run Ar.add IntKind.i64 2 (Ar.run Ar.rem IntKind.i64 (Ar.run Ar.conv IntKind.i64 a0 0) 29)) (Ar.run Ar.rem IntKind.i64 (Ar.run Ar.conv IntKind.i64 a2 0) (Ar.run Ar.add IntKind.i64 1 (Ar.run Ar.rem IntKind.i64 (Ar.run Ar.conv IntKind.i64 a1 0) (Ar.run Ar.add IntKind.i64 2 (Ar.run Ar.rem IntKind.i64 (Ar.run Ar.conv IntKind.i64 a0 0) 29))))) (Ar.run Ar.sub IntKind.i64 p1 1) p0))
   (.ask (Cm.run Cm.neq (Prod.snd (Prod.snd (AF.val (lcaA (Ar.run Ar.add IntKind.i64 2 (Ar.run Ar.rem IntKind.i64 (Ar.run Ar.conv IntKind.i64 a0 0) 29)) (Ar.run Ar.rem IntKind.i64 (Ar.run Ar.conv IntKind.i64 a2 0) (Ar.run Ar.add IntKind.i64 1 (Ar.run Ar.rem IntKind.i64 (Ar.run Ar.conv IntKind.i64 a1 0) (Ar.run Ar.add IntKind.i64 2 (Ar.run Ar.rem IntKind.i64 (Ar.run Ar.conv IntKind.i64 a0 0) 29))))) (Ar.run Ar.sub IntKind.i64 p1 1) p0)))) 0)
   (.leaf (.next (.n1 (Ar.run Ar.add IntKind.i64 p0 1) p1 p2) [0, 1, 2, 3, 4, 5]))
   (.ask (Cm.run Cm.lss (Prod.fst (Prod.snd (AF.val (lcaA (Ar.run Ar.add IntKind.i64 2 (Ar.run Ar.rem IntKind.i64 (Ar.run Ar.conv IntKind.i64 a0 0) 29)) (Ar.run Ar.rem IntKind.i64 (Ar.run Ar.conv IntKind.i64 a2 0) (Ar.run Ar.add IntKind.i64 1 (Ar.run Ar.rem IntKind.i64 (Ar.run Ar.conv IntKind.i64 a1 0) (Ar.run Ar.add IntKind.i64 2 (Ar.run Ar.rem IntKind.i64 (Ar.run Ar.conv IntKind.i64 a0 0) 29))))) (Ar.run Ar.sub IntKind.i64 p1 1) p0)))) 1)
   (.leaf (.next (.n1 (Ar.run Ar.add IntKind.i64 p0 1) p1 p2) [0, 1, 2, 3, 4, 5]))
   (.ask (Cm.run Cm.lss (Prod.fst (AF.val (lcaA (Ar.run Ar.add IntKind.i64 2 (Ar.run Ar.rem IntKind.i64 (Ar.run Ar.conv IntKind.i64 a0 0) 29)) (Ar.run Ar.rem IntKind.i64 (Ar.run Ar.conv IntKind.i64 a2 0) (Ar.run Ar.add IntKind.i64 1 (Ar.run Ar.rem IntKind.i64 (Ar.run Ar.conv IntKind.i64 a1 0) (Ar.run Ar.add IntKind.i64 2 (Ar.run Ar.rem IntKind.i64 (Ar.run Ar.conv IntKind.i64 a0 0) 29))))) (Ar.run Ar.sub IntKind.i64 p1 1) p0))) 0)
   (.leaf (.next (.n1 (Ar.run Ar.add IntKind.i64 p0 1) p1 p2) [0, 1, 2, 3, 4, 5]))
   (.ask (Cm.run Cm.gtr (Prod.fst (AF.val (lcaA (Ar.run Ar.add IntKind.i64 2 (Ar.run Ar.rem IntKind.i64 (Ar.run Ar.conv IntKind.i64 a0 0) 29)) (Ar.run Ar.rem IntKind.i64 (Ar.run Ar.conv IntKind.i64 a2 0) (Ar.run Ar.add IntKind.i64 1 (Ar.run Ar.rem IntKind.i64 (Ar.run Ar.conv IntKind.i64 a1 0) (Ar.run Ar.add IntKind.i64 2 (Ar.run Ar.rem IntKind.i64 (Ar.run Ar.conv IntKind.i64 a0 0) 29))))) (Ar.run Ar.sub IntKind.i64 p1 1) p0))) (Prod.fst (Prod.snd (AF.val (lcaA (Ar.run Ar.add IntKind.i64 2 (Ar.run Ar.rem IntKind.i64 (Ar.run Ar.conv IntKind.i64 a0 0) 29)) (Ar.run Ar.rem IntKind.i64 (Ar.run Ar.conv IntKind.i64 a2 0) (Ar.run Ar.add IntKind.i64 1 (Ar.run Ar.rem IntKind.i64 (Ar.run Ar.conv IntKind.i64 a1 0) (Ar.run Ar.add IntKind.i64 2 (Ar.run Ar.rem IntKind.i64 (Ar.run Ar.conv IntKind.i64 a0 0) 29))))) (Ar.run Ar.sub IntKind.i64 p1 1) p0)))))
   (.leaf (.next (.n1 (Ar.run Ar.add IntKind.i64 p0 1) p1 p2) [0, 1, 2, 3, 4, 5]))
   (.ask (Cm.run Cm.leq (Ar.run Ar.mul IntKind.i64 (Ar.run Ar.sub IntKind.i64 (Prod.fst (Prod.snd (AF.val (lcaA (Ar.run Ar.add IntKind.i64 2 (Ar.run Ar.rem IntKind.i64 (Ar.run Ar.conv IntKind.i64 a0 0) 29)) (Ar.run Ar.rem IntKind.i64 (Ar.run Ar.conv IntKind.i64 a2 0) (Ar.run Ar.add IntKind.i64 1 (Ar.run Ar.rem IntKind.i64 (Ar.run Ar.conv IntKind.i64 a1 0) (Ar.run Ar.add IntKind.i64 2 (Ar.run Ar.rem IntKind.i64 (Ar.run Ar.conv IntKind.i64 a0 0) 29))))) (Ar.run Ar.sub IntKind.i64 p1 1) p0)))) (Prod.fst (AF.val (lcaA (Ar.run Ar.add IntKind.i64 2 (Ar.run Ar.rem IntKind.i64 (Ar.run Ar.conv IntKind.i64 a0 0) 29)) (Ar.run Ar.rem IntKind.i64 (Ar.run Ar.conv IntKind.i64 a2 0) (Ar.run Ar.add IntKind.i64 1 (Ar.run Ar.rem IntKind.i64 (Ar.run Ar.conv IntKind.i64 a1 0) (Ar.run Ar.add IntKind.i64 2 (Ar.run Ar.rem IntKind.i64 (Ar.run Ar.conv IntKind.i64 a0 0) 29))))) (Ar.run Ar.sub IntKind.i64 p1 1) p0)))) 255) (Ar.run Ar.mul IntKind.i64 (Ar.run Ar.conv IntKind.i64 a3 0) (Prod.fst (Prod.snd (AF.val (lcaA (Ar.run Ar.add IntKind.i64 2 (Ar.run Ar.rem IntKind.i64 (Ar.run Ar.conv IntKind.i64 a0 0) 29)) (Ar.run Ar.rem IntKind.i64 (Ar.run Ar.conv IntKind.i64 a2 0) (Ar.run Ar.add IntKind.i64 1 (Ar.run Ar.rem IntKind.i64 (Ar.run Ar.conv IntKind.i64 a1 0) (Ar.run Ar.add IntKind.i64 2 (Ar.run Ar.rem IntKind.i64 (Ar.run Ar.conv IntKind.i64 a0 0) 29))))) (Ar.run Ar.sub IntKind.i64 p1 1) p0))))))
   (.must (AF.fin (lcaA (Ar.run Ar.add IntKind.i64 2 (Ar.run Ar.rem IntKind.i64 (Ar.run Ar.conv IntKind.i64 a0 0) 29)) (Ar.run Ar.add IntKind.i64 1 (Ar.run Ar.rem IntKind.i64 (Ar.run Ar.conv IntKind.i64 a1 0) (Ar.run Ar.add IntKind.i64 2 (Ar.run Ar.rem IntKind.i64 (Ar.run Ar.conv IntKind.i64 a0 0) 29)))) (Ar.run Ar.sub IntKind.i64 p1 1) p0))
   (.ask (Cm.run Cm.neq (Prod.snd (Prod.snd (AF.val (lcaA (Ar.run Ar.add IntKind.i64 2 (Ar.run Ar.rem IntKind.i64 (Ar.run Ar.conv IntKind.i64 a0 0) 29)) (Ar.run Ar.add IntKind.i64 1 (Ar.run Ar.rem IntKind.i64 (Ar.run Ar.conv IntKind.i64 a1 0) (Ar.run Ar.add IntKind.i64 2 (Ar.run Ar.rem IntKind.i64 (Ar.run Ar.conv IntKind.i64 a0 0) 29)))) (Ar.run Ar.sub IntKind.i64 p1 1) p0)))) 0)
   (.leaf (.next (.n1 (Ar.run Ar.add IntKind.i64 p0 1) p1 p2) [0, 1, 2, 3, 4, 5]))
   (.ask (Cm.run Cm.lss (Prod.fst (Prod.snd (AF.val (lcaA (Ar.run Ar.add IntKind.i64 2 (Ar.run Ar.rem IntKind.i64 (Ar.run Ar.conv IntKind.i64 a0 0) 29)) (Ar.run Ar.add IntKind.i64 1 (Ar.run Ar.rem IntKind.i64 (Ar.run Ar.conv IntKind.i64 a1 0) (Ar.run Ar.add IntKind.i64 2 (Ar.run Ar.rem IntKind.i64 (Ar.run Ar.conv IntKind.i64 a0 0) 29)))) (Ar.run Ar.sub IntKind.i64 p1 1) p0)))) 1)
   (.leaf (.next (.n1 (Ar.run Ar.add IntKind.i64 p0 1) p1 p2) [0, 1, 2, 3, 4, 5]))
   (.ask (Cm.run Cm.lss (Prod.fst (AF.val (lcaA (Ar.run Ar.add IntKind.i64 2 (Ar.run Ar.rem IntKind.i64 (Ar.run Ar.conv IntKind.i64 a0 0) 29)) (Ar.run Ar.add IntKind.i64 1 (Ar.run Ar.rem IntKind.i64 (Ar.run Ar.conv IntKind.i64 a1 0) (Ar.run Ar.add IntKind.i64 2 (Ar.run Ar.rem IntKind.i64 (Ar.run Ar.conv IntKind.i64 a0 0) 29)))) (Ar.run Ar.sub IntKind.i64 p1 1) p0))) 0)
   (.leaf (.next (.n1 (Ar.run Ar.add IntKind.i64 p0 1) p1 p2) [0, 1, 2, 3, 4, 5]))
   (.ask (Cm.run Cm.gtr (Prod.fst (AF.val (lcaA (Ar.run Ar.add IntKind.i64 2 (Ar.run Ar.rem IntKind.i64 (Ar.run Ar.conv IntKind.i64 a0 0) 29)) (Ar.run Ar.add IntKind.i64 1 (Ar.run Ar.rem IntKind.i64 (Ar.run Ar.conv IntKind.i64 a1 0) (Ar.run Ar.add IntKind.i64 2 (Ar.run Ar.rem IntKind.i64 (Ar.run Ar.conv IntKind.i64 a0 0) 29)))) (Ar.run Ar.sub IntKind.i64 p1 1) p0))) (Prod.fst (Prod.snd (AF.val (lcaA (Ar.run Ar.add IntKind.i64 2 (Ar.run Ar.rem IntKind.i64 (Ar.run Ar.conv IntKind.i64 a0 0) 29)) (Ar.run Ar.add IntKind.i64 1 (Ar.run Ar.rem IntKind.i64 (Ar.run Ar.conv IntKind.i64 a1 0) (Ar.run Ar.add IntKind.i64 2 (Ar.run Ar.rem IntKind.i64 (Ar.run Ar.conv IntKind.i64 a0 0) 29)))) (Ar.run Ar.sub IntKind.i64 p1 1) p0)))))
   (.leaf (.next (.n1 (Ar.run Ar.add IntKind.i64 p0 1) p1 p2) [0, 1, 2, 3, 4, 5]))
   (.ask (Cm.run Cm.leq (Ar.run Ar.mul IntKind.i64 (Prod.fst (AF.val (lcaA (Ar.run Ar.add IntKind.i64 2 (Ar.run Ar.rem IntKind.i64 (Ar.run Ar.conv IntKind.i64 a0 0) 29)) (Ar.run Ar.add IntKind.i64 1 (Ar.run Ar.rem IntKind.i64 (Ar.run Ar.conv IntKind.i64 a1 0) (Ar.run Ar.add IntKind.i64 2 (Ar.run Ar.rem IntKind.i64 (Ar.run Ar.conv IntKind.i64 a0 0) 29)))) (Ar.run Ar.sub IntKind.i64 p1 1) p0))) 255) (Ar.run Ar.mul IntKind.i64 (Ar.run Ar.conv IntKind.i64 a4 0) (Prod.fst (Prod.snd (AF.val (lcaA (Ar.run Ar.add IntKind.i64 2 (Ar.run Ar.rem IntKind.i64 (Ar.run Ar.conv IntKind.i64 a0 0) 29)) (Ar.run Ar.add IntKind.i64 1 (Ar.run Ar.rem IntKind.i64 (Ar.run Ar.conv IntKind.i64 a1 0) (Ar.run Ar.add IntKind.i64 2 (Ar.run Ar.rem IntKind.i64 (Ar.run Ar.conv IntKind.i64 a0 0) 29)))) (Ar.run Ar.sub IntKind.i64 p1 1) p0))))))
   (.leaf (.done false []))
   (.leaf (.next (.n1 (Ar.run Ar.add IntKind.i64 p0 1) p1 p2) [0, 1, 2, 3, 4, 5]))))))))
   (.leaf (.next (.n1 (Ar.run Ar.add IntKind.i64 p0 1) p1 p2) [0, 1, 2, 3, 4, 5]))))))))
   (.must (AF.fin (lplA (Ar.run Ar.add IntKind.i64 2 (Ar.run Ar.rem IntKind.i64 (Ar.run Ar.conv IntKind.i64 a0 0) 29)) (Ar.run Ar.rem IntKind.i64 (Ar.run Ar.conv IntKind.i64 a2 0) (Ar.run Ar.add IntKind.i64 1 (Ar.run Ar.rem IntKind.i64 (Ar.run Ar.conv IntKind.i64 a1 0) (Ar.run Ar.add IntKind.i64 2 (Ar.run Ar.rem IntKind.i64 (Ar.run Ar.conv IntKind.i64 a0 0) 29))))) (Ar.run Ar.add IntKind.i64 1 (Ar.run Ar.rem IntKind.i64 (Ar.run Ar.conv IntKind.i64 a1 0) (Ar.run Ar.add IntKind.i64 2 (Ar.run Ar.rem IntKind.i64 (Ar.run Ar.conv IntKind.i64 a0 0) 29)))) (Ar.run Ar.mx IntKind.i64 (Ar.run Ar.conv IntKind.i64 a3 0) (Ar.run Ar.conv IntKind.i64 a5 0)) 255 (Ar.run Ar.mx IntKind.i64 (Ar.run Ar.conv IntKind.i64 a4 0) (Ar.run Ar.conv IntKind.i64 a6 0)) 255))
   (.must (AF.fin (lboA (Ar.run Ar.add IntKind.i64 2 (Ar.run Ar.rem IntKind.i64 (Ar.run Ar.conv IntKind.i64 a0 0) 29)) p1 p2 (Ar.run Ar.conv IntKind.i64 a4 0) 255))
   (.must (AF.fin (lboA (Ar.run Ar.add IntKind.i64 2 (Ar.run Ar.rem IntKind.i64 (Ar.run Ar.conv IntKind.i64 a0 0) 29)) p1 p2 (Ar.run Ar.mx IntKind.i64 (Ar.run Ar.conv IntKind.i64 a4 0) (Ar.run Ar.conv IntKind.i64 a6 0)) 255))
   (.ask (Cm.run Cm.eql (Prod.snd (Prod.snd (AF.val (lplA (Ar.run Ar.add IntKind.i64 2 (Ar.run Ar.rem IntKind.i64 (Ar.run Ar.conv IntKind.i64 a0 0) 29)) (Ar.run Ar.rem IntKind.i64 (Ar.run Ar.conv IntKind.i64 a2 0) (Ar.run Ar.add IntKind.i64 1 (Ar.run Ar.rem IntKind.i64 (Ar.run Ar.conv IntKind.i64 a1 0) (Ar.run Ar.add IntKind.i64 2 (Ar.run Ar.rem IntKind.i64 (Ar.run Ar.conv IntKind.i64 a0 0) 29))))) (Ar.run Ar.add IntKind.i64 1 (Ar.run Ar.rem IntKind.i64 (Ar.run Ar.conv IntKind.i64 a1 0) (Ar.run Ar.add IntKind.i64 2 (Ar.run Ar.rem IntKind.i64 (Ar.run Ar.conv IntKind.i64 a0 0) 29)))) (Ar.run Ar.mx IntKind.i64 (Ar.run Ar.conv IntKind.i64 a3 0) (Ar.run Ar.conv IntKind.i64 a5 0)) 255 (Ar.run Ar.mx IntKind.i64 (Ar.run Ar.conv IntKind.i64 a4 0) (Ar.run Ar.conv IntKind.i64 a6 0)) 255)))) 0)
   (.ask (Cm.run Cm.leq (Prod.fst (AF.val (lplA (Ar.run Ar.add IntKind.i64 2 (Ar.run Ar.rem IntKind.i64 (Ar.run Ar.conv IntKind.i64 a0 0) 29)) (Ar.run Ar.rem IntKind.i64 (Ar.run Ar.conv IntKind.i64 a2 0) (Ar.run Ar.add IntKind.i64 1 (Ar.run Ar.rem IntKind.i64 (Ar.run Ar.conv IntKind.i64 a1 0) (Ar.run Ar.add IntKind.i64 2 (Ar.run Ar.rem IntKind.i64 (Ar.run Ar.conv IntKind.i64 a0 0) 29))))) (Ar.run Ar.add IntKind.i64 1 (Ar.run Ar.rem IntKind.i64 (Ar.run Ar.conv IntKind.i64 a1 0) (Ar.run Ar.add IntKind.i64 2 (Ar.run Ar.rem IntKind.i64 (Ar.run Ar.conv IntKind.i64 a0 0) 29)))) (Ar.run Ar.mx IntKind.i64 (Ar.run Ar.conv IntKind.i64 a3 0) (Ar.run Ar.conv IntKind.i64 a5 0)) 255 (Ar.run Ar.mx IntKind.i64 (Ar.run Ar.conv IntKind.i64 a4 0) (Ar.run Ar.conv IntKind.i64 a6 0)) 255))) p1)
   (.ask (Cm.run Cm.eql (Prod.snd (AF.val (lboA (Ar.run Ar.add IntKind.i64 2 (Ar.run Ar.rem IntKind.i64 (Ar.run Ar.conv IntKind.i64 a0 0) 29)) p1 p2 (Ar.run Ar.conv IntKind.i64 a4 0) 255))) 0)
   (.ask (Cm.run Cm.eql (Prod.snd (AF.val (lboA (Ar.run Ar.add IntKind.i64 2 (Ar.run Ar.rem IntKind.i64 (Ar.run Ar.conv IntKind.i64 a0 0) 29)) p1 p2 (Ar.run Ar.mx IntKind.i64 (Ar.run Ar.conv IntKind.i64 a4 0) (Ar.run Ar.conv IntKind.i64 a6 0)) 255))) 0)
   (.ask (Cm.run Cm.leq (Prod.fst (AF.val (lboA (Ar.run Ar.add IntKind.i64 2 (Ar.run Ar.rem IntKind.i64 (Ar.run Ar.conv IntKind.i64 a0 0) 29)) p1 p2 (Ar.run Ar.mx IntKind.i64 (Ar.run Ar.conv IntKind.i64 a4 0) (Ar.run Ar.conv IntKind.i64 a6 0)) 255))) (Prod.fst (AF.val (lboA (Ar.run Ar.add IntKind.i64 2 (Ar.run Ar.rem IntKind.i64 (Ar.run Ar.conv IntKind.i64 a0 0) 29)) p1 p2 (Ar.run Ar.conv IntKind.i64 a4 0) 255))))
   (.ask (Cm.run Cm.geq (Prod.fst (AF.val (lboA (Ar.run Ar.add IntKind.i64 2 (Ar.run Ar.rem IntKind.i64 (Ar.run Ar.conv IntKind.i64 a0 0) 29)) p1 p2 (Ar.run Ar.mx IntKind.i64 (Ar.run Ar.conv IntKind.i64 a4 0) (Ar.run Ar.conv IntKind.i64 a6 0)) 255))) p2)
   (.ask (Cm.run Cm.leq (Prod.fst (AF.val (lboA (Ar.run Ar.add IntKind.i64 2 (Ar.run Ar.rem IntKind.i64 (Ar.run Ar.conv IntKind.i64 a0 0) 29)) p1 p2 (Ar.run Ar.conv IntKind.i64 a4 0) 255))) (Ar.run Ar.add IntKind.i64 2 (Ar.run Ar.rem IntKind.i64 (Ar.run Ar.conv IntKind.i64 a0 0) 29)))
   (.leaf (.done true []))
   (.leaf (.done false [])))
   (.leaf (.done false [])))
   (.leaf (.done false [])))
   (.leaf (.done false [])))
   (.leaf (.done false [])))
   (.leaf (.done false [])))
   (.leaf (.done false []))))))

noncomputable def llrA (a0 : Int) (a1 : Int) (a2 : Int) (a3 : Int) (a4 : Int) (a5 : Int) (a6 : Int) : AF llrN llrR where
  code := llrCode
  base := 0
  nt := 192
  m := 400
  un := []
  W := []
  h0 := []
  args := [.agg [.int .u8 (.x a0), .int .u8 (.x a1), .int .u8 (.x a2)], .agg [.int .u8 (.x a3), .int .u8 (.x a4)], .agg [.int .u8 (.x a5), .int .u8 (.x a6)]]
  res := (Tryd.f5).results.toList
  path := fun a => match a with
   | .n0 p0 p1 p2 => [1, 1, 1, 1, 1, 1, 1, 1, 0, 1, 0]
   | .n1 p0 p1 p2 => [1, 1, 1, 1, 1, 1, 1, 1, 1, 0, 1, 0]
  pd := fun a => match a with
   | .n0 p0 p1 p2 => ⟨[(4, .ptr (some (0, 0))), (5, .ptr (some (1, 0))), (7, .ptr (some (2, 0))), (8, .int .i64 (.x (Ar.run Ar.add IntKind.i64 1 (Ar.run Ar.rem IntKind.i64 (Ar.run Ar.conv IntKind.i64 a1 0) (Ar.run Ar.add IntKind.i64 2 (Ar.run Ar.rem IntKind.i64 (Ar.run Ar.conv IntKind.i64 a0 0) 29)))))), (9, .int .i64 (.x (Ar.run Ar.rem IntKind.i64 (Ar.run Ar.conv IntKind.i64 a2 0) (Ar.run Ar.add IntKind.i64 1 (Ar.run Ar.rem IntKind.i64 (Ar.run Ar.conv IntKind.i64 a1 0) (Ar.run Ar.add IntKind.i64 2 (Ar.run Ar.rem IntKind.i64 (Ar.run Ar.conv IntKind.i64 a0 0) 29))))))), (10, .ptr (some (3, 0))), (11, .ptr (some (4, 0))), (12, .ptr (some (5, 0))), (14, .fn (.func 19) [] [.ptr (some (2, 0))]), (15, .int .i64 (.x p0))], [(0, ⟨.lit [.int .u8 (.x a3), .int .u8 (.x a4)], 0, true, none⟩), (1, ⟨.lit [.int .u8 (.x a5), .int .u8 (.x a6)], 0, true, none⟩), (2, ⟨.lit [.int .i64 (.x (Ar.run Ar.add IntKind.i64 2 (Ar.run Ar.rem IntKind.i64 (Ar.run Ar.conv IntKind.i64 a0 0) 29)))], 0, true, none⟩), (3, ⟨.lit [.int .i64 (.x (Ar.run Ar.conv IntKind.i64 a3 0)), .int .i64 (.x 255)], 0, true, none⟩), (4, ⟨.lit [.int .i64 (.x (Ar.run Ar.conv IntKind.i64 a4 0)), .int .i64 (.x 255)], 0, true, none⟩), (5, ⟨.lit [.int .i64 (.x p1), .int .i64 (.x p2)], 0, true, none⟩)], 6, []⟩
   | .n1 p0 p1 p2 => ⟨[(4, .ptr (some (0, 0))), (5, .ptr (some (1, 0))), (7, .ptr (some (2, 0))), (8, .int .i64 (.x (Ar.run Ar.add IntKind.i64 1 (Ar.run Ar.rem IntKind.i64 (Ar.run Ar.conv IntKind.i64 a1 0) (Ar.run Ar.add IntKind.i64 2 (Ar.run Ar.rem IntKind.i64 (Ar.run Ar.conv IntKind.i64 a0 0) 29)))))), (9, .int .i64 (.x (Ar.run Ar.rem IntKind.i64 (Ar.run Ar.conv IntKind.i64 a2 0) (Ar.run Ar.add IntKind.i64 1 (Ar.run Ar.rem IntKind.i64 (Ar.run Ar.conv IntKind.i64 a1 0) (Ar.run Ar.add IntKind.i64 2 (Ar.run Ar.rem IntKind.i64 (Ar.run Ar.conv IntKind.i64 a0 0) 29))))))), (10, .ptr (some (3, 0))), (11, .ptr (some (4, 0))), (12, .ptr (some (5, 0))), (14, .fn (.func 19) [] [.ptr (some (2, 0))]), (16, .int .i64 (.x p0))], [(0, ⟨.lit [.int .u8 (.x a3), .int .u8 (.x a4)], 0, true, none⟩), (1, ⟨.lit [.int .u8 (.x a5), .int .u8 (.x a6)], 0, true, none⟩), (2, ⟨.lit [.int .i64 (.x (Ar.run Ar.add IntKind.i64 2 (Ar.run Ar.rem IntKind.i64 (Ar.run Ar.conv IntKind.i64 a0 0) 29)))], 0, true, none⟩), (3, ⟨.lit [.int .i64 (.x (Ar.run Ar.conv IntKind.i64 a3 0)), .int .i64 (.x 255)], 0, true, none⟩), (4, ⟨.lit [.int .i64 (.x (Ar.run Ar.conv IntKind.i64 a4 0)), .int .i64 (.x 255)], 0, true, none⟩), (5, ⟨.lit [.int .i64 (.x p1), .int .i64 (.x p2)], 0, true, none⟩)], 6, []⟩
  D0 := llrD0 a0 a1 a2 a3 a4 a5 a6
  D := llrD a0 a1 a2 a3 a4 a5 a6
  rc := (fun v => .bool (.x v))
  rh := (fun v => [])
  rn := (fun v => 0)
  rx := (fun v => [])
  rgo := (fun _ => none)


theorem llrstart (a0 : Int) (a1 : Int) (a2 : Int) (a3 : Int) (a4 : Int) (a5 : Int) (a6 : Int) : AF.edgeOk (llrA a0 a1 a2 a3 a4 a5 a6) (ctxOf Tryd.prog memo0) (llrD0 a0 a1 a2 a3 a4 a5 a6) (AF.run0 (llrA a0 a1 a2 a3 a4 a5 a6) (ctxOf Tryd.prog (memoA 8 lboP lboF (memoA 7 lplP lplF (memoA 6 lcaP lcaF (memoB [10])))))) := by unfold AF.edgeOk; kernel_rfl

theorem llrnode0 (a0 : Int) (a1 : Int) (a2 : Int) (a3 : Int) (a4 : Int) (a5 : Int) (a6 : Int) (p0 : Int) (p1 : Int) (p2 : Int) : AF.edgeOk (llrA a0 a1 a2 a3 a4 a5 a6) (ctxOf Tryd.prog memo0) (llrD a0 a1 a2 a3 a4 a5 a6 (.n0 p0 p1 p2)) (AF.runN (llrA a0 a1 a2 a3 a4 a5 a6) (ctxOf Tryd.prog (memoA 8 lboP lboF (memoA 7 lplP lplF (memoA 6 lcaP lcaF (memoB [10]))))) (.n0 p0 p1 p2)) := by unfold AF.edgeOk; kernel_rfl

theorem llrnode1 (a0 : Int) (a1 : Int) (a2 : Int) (a3 : Int) (a4 : Int) (a5 : Int) (a6 : Int) (p0 : Int) (p1 : Int) (p2 : Int) : AF.edgeOk (llrA a0 a1 a2 a3 a4 a5 a6) (ctxOf Tryd.prog memo0) (llrD a0 a1 a2 a3 a4 a5 a6 (.n1 p0 p1 p2)) (AF.runN (llrA a0 a1 a2 a3 a4 a5 a6) (ctxOf Tryd.prog (memoA 8 lboP lboF (memoA 7 lplP lplF (memoA 6 lcaP lcaF (memoB [10]))))) (.n1 p0 p1 p2)) := by unfold AF.edgeOk; kernel_rfl

theorem llrok (a0 : Int) (a1 : Int) (a2 : Int) (a3 : Int) (a4 : Int) (a5 : Int) (a6 : Int) : (llrA a0 a1 a2 a3 a4 a5 a6).Ok Tryd.prog (ctxOf Tryd.prog (memoA 8 lboP lboF (memoA 7 lplP lplF (memoA 6 lcaP lcaF (memoB [10]))))) where
  regs := by kernel_rfl
  h0 := by kernel_rfl
  start := llrstart a0 a1 a2 a3 a4 a5 a6
  node := fun a _ => match a with
   | .n0 p0 p1 p2 => llrnode0 a0 a1 a2 a3 a4 a5 a6 p0 p1 p2
   | .n1 p0 p1 p2 => llrnode1 a0 a1 a2 a3 a4 a5 a6 p0 p1 p2
  pd := fun a => match a with
   | .n0 p0 p1 p2 => ⟨(fa_cons rfl (fa_cons rfl (fa_cons rfl (fa_cons rfl (fa_cons rfl (fa_cons rfl (fa_cons rfl (fa_cons rfl (fa_cons rfl (fa_cons rfl fa_nil)))))))))), (fa_cons ⟨.inl (Nat.le_of_ble_eq_true rfl), rfl, rfl⟩ (fa_cons ⟨.inl (Nat.le_of_ble_eq_true rfl), rfl, rfl⟩ (fa_cons ⟨.inl (Nat.le_of_ble_eq_true rfl), rfl, rfl⟩ (fa_cons ⟨.inl (Nat.le_of_ble_eq_true rfl), rfl, rfl⟩ (fa_cons ⟨.inl (Nat.le_of_ble_eq_true rfl), rfl, rfl⟩ (fa_cons ⟨.inl (Nat.le_of_ble_eq_true rfl), rfl, rfl⟩ fa_nil)))))), fa_nil, rfl⟩
   | .n1 p0 p1 p2 => ⟨(fa_cons rfl (fa_cons rfl (fa_cons rfl (fa_cons rfl (fa_cons rfl (fa_cons rfl (fa_cons rfl (fa_cons rfl (fa_cons rfl (fa_cons rfl fa_nil)))))))))), (fa_cons ⟨.inl (Nat.le_of_ble_eq_true rfl), rfl, rfl⟩ (fa_cons ⟨.inl (Nat.le_of_ble_eq_true rfl), rfl, rfl⟩ (fa_cons ⟨.inl (Nat.le_of_ble_eq_true rfl), rfl, rfl⟩ (fa_cons ⟨.inl (Nat.le_of_ble_eq_true rfl), rfl, rfl⟩ (fa_cons ⟨.inl (Nat.le_of_ble_eq_true rfl), rfl, rfl⟩ (fa_cons ⟨.inl (Nat.le_of_ble_eq_true rfl), rfl, rfl⟩ fa_nil)))))), fa_nil, rfl⟩
  le := fun a => match a with
   | .n0 p0 p1 p2 => Nat.le_of_ble_eq_true rfl
   | .n1 p0 p1 p2 => Nat.le_of_ble_eq_true rfl
  rd := fun v => ⟨⟨fa_nil, fa_nil, fa_nil, rfl⟩, rfl⟩
  wb := rfl


theorem llrhR {ρ : Env} (a0 : Int) (a1 : Int) (a2 : Int) (a3 : Int) (a4 : Int) (a5 : Int) (a6 : Int) (hM : MemoOk Tryd.prog (ctxOf Tryd.prog (memoA 8 lboP lboF (memoA 7 lplP lplF (memoA 6 lcaP lcaF (memoB [10]))))) ρ) : ∀ X a q n D, FxOk ρ X → X.base = (llrA a0 a1 a2 a3 a4 a5 a6).base → X.nt = (llrA a0 a1 a2 a3 a4 a5 a6).nt → X.W = (llrA a0 a1 a2 a3 a4 a5 a6).W → (llrA a0 a1 a2 a3 a4 a5 a6).rgo a = some q → q n = some D → (llrA a0 a1 a2 a3 a4 a5 a6).RangeOk Tryd.prog ρ X a D := AF.noRange rfl

theorem llrctr {ρ : Env} (a0 : Int) (a1 : Int) (a2 : Int) (a3 : Int) (a4 : Int) (a5 : Int) (a6 : Int) {n : Nat} {v : llrR} (hM : MemoOk Tryd.prog (ctxOf Tryd.prog (memoA 8 lboP lboF (memoA 7 lplP lplF (memoA 6 lcaP lcaF (memoB [10]))))) ρ) (hv : (llrA a0 a1 a2 a3 a4 a5 a6).run n = some v) :
    Ctr Tryd.prog ρ 5 (llrA a0 a1 a2 a3 a4 a5 a6).args (llrA a0 a1 a2 a3 a4 a5 a6).H0 (llrA a0 a1 a2 a3 a4 a5 a6).base (llrA a0 a1 a2 a3 a4 a5 a6).W ((llrA a0 a1 a2 a3 a4 a5 a6).rc v) (putH (llrA a0 a1 a2 a3 a4 a5 a6).H0 ((llrA a0 a1 a2 a3 a4 a5 a6).rh v ++ (llrA a0 a1 a2 a3 a4 a5 a6).rx v)) ((llrA a0 a1 a2 a3 a4 a5 a6).rn v) :=
  AF.ctr try_ok hM (llrok a0 a1 a2 a3 a4 a5 a6) (fn := Tryd.f5) Tryd.func5 rfl rfl (Nat.le_of_ble_eq_true rfl) rfl (llrhR a0 a1 a2 a3 a4 a5 a6 hM) hv


theorem llrmem {ρ : Env} : MemoOk Tryd.prog (ctxOf Tryd.prog (memoA 8 lboP lboF (memoA 7 lplP lplF (memoA 6 lcaP lcaF (memoB [10]))))) ρ := (memoA_ok (lboknown lbomem) (memoA_ok (lplknown lplmem) (memoA_ok (lcaknown lcamem) (memoB_ok (fun f hf => by
    simp only [List.mem_cons, List.not_mem_nil, or_false] at hf
    subst hf
    exact CxKn11_known)))))


abbrev llrP : List AP := [.agg [.int .u8, .int .u8, .int .u8], .agg [.int .u8, .int .u8], .agg [.int .u8, .int .u8]]
noncomputable def llrF (v : AV) : AF llrN llrR := llrA (v.i.getD 0 0) (v.i.getD 1 0) (v.i.getD 2 0) (v.i.getD 3 0) (v.i.getD 4 0) (v.i.getD 5 0) (v.i.getD 6 0)
theorem llrknown {ρ : Env} (hM : MemoOk Tryd.prog (ctxOf Tryd.prog (memoA 8 lboP lboF (memoA 7 lplP lplF (memoA 6 lcaP lcaF (memoB [10]))))) ρ) : KnownA Tryd.prog ρ 5 llrP llrF where
  fn := ⟨Tryd.f5, Tryd.func5, rfl⟩
  args := fun v => rfl
  plain := fun v r => rfl
  ctr := fun v n r h => llrctr (v.i.getD 0 0) (v.i.getD 1 0) (v.i.getD 2 0) (v.i.getD 3 0) (v.i.getD 4 0) (v.i.getD 5 0) (v.i.getD 6 0) hM h

end Go.Proofs.YtpojncoplaopcaaDoor.Cx

/- LotRisks: the law's own automaton yields true, for all bytes. -/
namespace Go.Proofs.YtpojncoplaopcaaDoor.Cx
set_option linter.unusedVariables false
set_option linter.unusedSimpArgs false
set_option maxHeartbeats 2000000
open Go Go.RowKit

theorem conv_is {a : Int} (h : -9223372036854775808 ≤ a ∧ a ≤ 9223372036854775807) : Ar.run Ar.conv IntKind.i64 a 0 = a := IntWalk.i64_in _ (by omega)
theorem rem_is {a b : Int} (h : 0 ≤ a) : Ar.run Ar.rem IntKind.i64 a b = a % b := by
  show a.tmod b = _
  rw [Int.tmod_eq_emod_of_nonneg h]

/-- A lot and two numbers of bad pieces, out of three bytes. -/
theorem risk_args {a0 a1 a2 : Int} (r0 : 0 ≤ a0 ∧ a0 ≤ 255) (r1 : 0 ≤ a1 ∧ a1 ≤ 255) (r2 : 0 ≤ a2 ∧ a2 ≤ 255) :
    ∃ N g b : Nat, (2 ≤ N ∧ N ≤ 30 ∧ g < b ∧ b ≤ N) ∧ Ar.run Ar.add IntKind.i64 2 (Ar.run Ar.rem IntKind.i64 (Ar.run Ar.conv IntKind.i64 a0 0) 29) = (N : Int) ∧
      Ar.run Ar.add IntKind.i64 1 (Ar.run Ar.rem IntKind.i64 (Ar.run Ar.conv IntKind.i64 a1 0) (N : Int)) = (b : Int) ∧
      Ar.run Ar.rem IntKind.i64 (Ar.run Ar.conv IntKind.i64 a2 0) (b : Int) = (g : Int) := by
  rw [conv_is (a := a0) (by omega), conv_is (a := a1) (by omega), conv_is (a := a2) (by omega), rem_is r0.1]
  have b0 := Int.emod_lt_of_pos a0 (show (0 : Int) < 29 by omega)
  have b1 := Int.emod_nonneg a0 (show (29 : Int) ≠ 0 by omega)
  rw [arAdd (a := 2) (by omega)]
  generalize hN : a0 % 29 = s at *
  have c0 := Int.emod_lt_of_pos a1 (show (0 : Int) < 2 + s by omega)
  have c1 := Int.emod_nonneg a1 (show (2 + s : Int) ≠ 0 by omega)
  generalize hb : a1 % (2 + s) = b at *
  have d0 := Int.emod_lt_of_pos a2 (show (0 : Int) < 1 + b by omega)
  have d1 := Int.emod_nonneg a2 (show (1 + b : Int) ≠ 0 by omega)
  generalize hg : a2 % (1 + b) = g at *
  refine ⟨(2 + s).toNat, g.toNat, (1 + b).toNat, by omega, by omega, ?_, ?_⟩
  · rw [show (((2 + s).toNat : Nat) : Int) = 2 + s by omega, rem_is r1.1, hb, arAdd (by omega)]; omega
  · rw [show (((1 + b).toNat : Nat) : Int) = 1 + b by omega, rem_is r2.1, hg]; omega

theorem Low.soft {x y : Nat} {p q r d : Int} (h : Low x y p q) (hy : 1 ≤ y) : p * d ≤ r * q ↔ (x : Int) * d ≤ r * y := by
  have c := h.cross
  have q1 := h.q1
  have e1 : p * d * y = q * (x * d) := by rw [Int.mul_right_comm, c, Int.mul_assoc]
  have e2 : r * q * y = q * (r * y) := by rw [Int.mul_comm r q, Int.mul_assoc]
  constructor
  · intro k
    apply Classical.byContradiction
    intro hn
    have m1 := Int.mul_le_mul_of_nonneg_right k (show (0 : Int) ≤ y by omega)
    have m2 := Int.mul_lt_mul_of_pos_left (show r * y < (x : Int) * d by omega) (show 0 < q by omega)
    omega
  · intro k
    apply Classical.byContradiction
    intro hn
    have m1 := Int.mul_le_mul_of_nonneg_left k (show 0 ≤ q by omega)
    have m2 := Int.mul_lt_mul_of_pos_right (show r * q < p * d by omega) (show (0 : Int) < y by omega)
    omega
theorem Low.hard {x y : Nat} {p q r d : Int} (h : Low x y p q) (hy : 1 ≤ y) : (q - p) * d ≤ r * q ↔ ((y : Int) - x) * d ≤ r * y := by
  have c := h.cross
  have q1 := h.q1
  have e1 : (q - p) * d * y = q * (((y : Int) - x) * d) := by
    rw [Int.mul_right_comm, Int.sub_mul, c, ← Int.mul_sub, Int.mul_assoc]
  have e2 : r * q * y = q * (r * y) := by rw [Int.mul_comm r q, Int.mul_assoc]
  constructor
  · intro k
    apply Classical.byContradiction
    intro hn
    have m1 := Int.mul_le_mul_of_nonneg_right k (show (0 : Int) ≤ y by omega)
    have m2 := Int.mul_lt_mul_of_pos_left (show r * y < ((y : Int) - x) * d by omega) (show 0 < q by omega)
    omega
  · intro k
    apply Classical.byContradiction
    intro hn
    have m1 := Int.mul_le_mul_of_nonneg_left k (show 0 ≤ q by omega)
    have m2 := Int.mul_lt_mul_of_pos_right (show r * q < (q - p) * d by omega) (show (0 : Int) < y by omega)
    omega

theorem pas_mono {N n A b b' : Nat} (h : b ≤ b') (hb : b' ≤ N) : pas N b' n A ≤ pas N b n A := by
  induction b' with
  | zero => obtain rfl : b = 0 := by omega
            exact Nat.le_refl _
  | succ b' ih =>
    by_cases h2 : b ≤ b'
    · have i := ih h2 (by omega)
      have w := psum_worse b' (N - (b' + 1)) n A
      rw [show N - (b' + 1) + 1 = N - b' by omega] at w
      unfold pas at *
      omega
    · obtain rfl : b = b' + 1 := by omega
      exact Nat.le_refl _

theorem lca_pas {N b n A : Nat} (h1 : 1 ≤ N) (hN : N ≤ 50) (hb : b ≤ N) (hn : n ≤ N) (hA : A ≤ n) : ∃ p q : Int, AF.fin (lcaA (N : Int) b n A) = true ∧ AF.val (lcaA (N : Int) b n A) = (p, q, 0) ∧ Low (pas N b n A) (bin N n) p q ∧ q ≤ 562949953421312 := by
  obtain ⟨f, v⟩ := lca_ok (b := b) (m := N - b) (n := n) (A := A) (by omega) (by omega) (by omega) hA
  rw [show b + (N - b) = N by omega] at f v
  have l := low_ok (pas_le (n := n) (A := A) hb) (bin_pos _ _ hn)
  have bl := bin_le (k := n) hN
  exact ⟨_, _, f, v, l, by have := l.qy; unfold pas at *; omega⟩

theorem Keep.more {N g b : Nat} {hn hd sn sd hn' sn' : Int} {n A : Nat} (h : Keep N g b hn hd sn sd n A) (h1 : hn ≤ hn') (h2 : sn ≤ sn') : Keep N g b hn' hd sn' sd n A := by
  obtain ⟨k1, k2⟩ := h
  have m1 := Int.mul_le_mul_of_nonneg_right h1 (show (0 : Int) ≤ bin N n by omega)
  have m2 := Int.mul_le_mul_of_nonneg_right h2 (show (0 : Int) ≤ bin N n by omega)
  exact ⟨by omega, by omega⟩

theorem llr_run (a0 a1 a2 a3 a4 a5 a6 : Int) (r0 : 0 ≤ a0 ∧ a0 ≤ 255) (r1 : 0 ≤ a1 ∧ a1 ≤ 255) (r2 : 0 ≤ a2 ∧ a2 ≤ 255) (r3 : 0 ≤ a3 ∧ a3 ≤ 255) (r4 : 0 ≤ a4 ∧ a4 ≤ 255) (r5 : 0 ≤ a5 ∧ a5 ≤ 255) (r6 : 0 ≤ a6 ∧ a6 ≤ 255) : ∃ k v, (llrA a0 a1 a2 a3 a4 a5 a6).run k = some v ∧ v = true := by
  obtain ⟨N, g, b, ⟨h1, h2, h3, h4⟩, eN, eb, eg⟩ := risk_args r0 r1 r2
  have c3 : Ar.run Ar.conv IntKind.i64 a3 0 = a3 := conv_is (by omega)
  have c4 : Ar.run Ar.conv IntKind.i64 a4 0 = a4 := conv_is (by omega)
  have c5 : Ar.run Ar.conv IntKind.i64 a5 0 = a5 := conv_is (by omega)
  have c6 : Ar.run Ar.conv IntKind.i64 a6 0 = a6 := conv_is (by omega)
  obtain ⟨fP, n, A, vP, hn, hA, hK, hNo, _⟩ := lpl_ok (N := N) (g := g) (b := b) (hn := a3) (hd := 255) (sn := a4) (sd := 255) (by omega) h3 h4 (by omega) (by omega) (by omega) (by omega)
  have bp : 1 ≤ bin N n := bin_pos _ _ hn
  have z0 : Cm.run .neq 0 0 = false := rfl
  exact AF.run_sat (Inv := fun a => match a with
      | .n0 p0 p1 p2 => ∃ j : Nat, j ≤ N + 1 ∧ p0 = (j : Int) ∧ p1 = (n : Int) ∧ p2 = (A : Int)
      | .n1 p0 p1 p2 => ∃ j : Nat, j ≤ n ∧ p0 = (j : Int) ∧ p1 = (n : Int) ∧ p2 = (A : Int))
    (fun a => match a with | .n0 p0 p1 p2 => 1000 - p0.toNat | .n1 p0 p1 p2 => 500 - p0.toNat) (E := fun (v : llrR) => v = true) (fun _ => rfl) (fun a hI => by
    cases a with
    | n0 p0 p1 p2 =>
      obtain ⟨j, hj, rfl, rfl, rfl⟩ := hI
      show DD.sat _ _ (llrD a0 a1 a2 a3 a4 a5 a6 (.n0 (j : Int) (n : Int) (A : Int)))
      unfold llrD
      simp only [eN, eb, eg, c3, c4]
      have e3 : Ar.run Ar.add IntKind.i64 (j : Int) 1 = (j : Int) + 1 := arAdd (by omega)
      simp only [e3]
      refine ⟨fun q => ?_, fun q => ?_⟩
      · have hjN : j ≤ N := by have := cmLeq.1 q; omega
        obtain ⟨p, d, f, v, l, dl⟩ := lca_pas (N := N) (b := j) (n := n) (A := A) (by omega) (by omega) hjN hn hA
        have i0 := l.p0; have i1 := l.pq; have i2 := l.q1
        have s6 : Cm.run .lss d 1 = false := cmLssF.2 (by omega)
        have s7 : Cm.run .lss p 0 = false := cmLssF.2 (by omega)
        have s8 : Cm.run .gtr p d = false := cmGtrF.2 (by omega)
        have m1 := mrng (a := d - p) (b := 255) (A := 562949953421312) (B := 255) (by omega) (by omega)
        have m2 := mrng (a := a3) (b := d) (A := 255) (B := 562949953421312) (by omega) (by omega)
        have m3 := mrng (a := p) (b := 255) (A := 562949953421312) (B := 255) (by omega) (by omega)
        have m4 := mrng (a := a4) (b := d) (A := 255) (B := 562949953421312) (by omega) (by omega)
        have x0 : Ar.run Ar.sub IntKind.i64 d p = d - p := arSub (by omega)
        have x1 : Ar.run Ar.mul IntKind.i64 (d - p) 255 = (d - p) * 255 := arMul (by omega)
        have x2 : Ar.run Ar.mul IntKind.i64 a3 d = a3 * d := arMul (by omega)
        have x3 : Ar.run Ar.mul IntKind.i64 p 255 = p * 255 := arMul (by omega)
        have x4 : Ar.run Ar.mul IntKind.i64 a4 d = a4 * d := arMul (by omega)
        have hard : j ≤ g → (d - p) * 255 ≤ a3 * d := fun hjg => by
          rw [l.hard bp]
          have pm := pas_mono (N := N) (n := n) (A := A) hjg (by omega)
          have k := hK.1
          have := Int.mul_le_mul_of_nonneg_right (show ((bin N n : Int) - pas N j n A) ≤ (bin N n : Int) - pas N g n A by omega) (show (0 : Int) ≤ 255 by omega)
          omega
        have soft : b ≤ j → p * 255 ≤ a4 * d := fun hjb => by
          rw [l.soft bp]
          have pm := pas_mono (N := N) (n := n) (A := A) hjb hjN
          have k := hK.2
          have := Int.mul_le_mul_of_nonneg_right (show (pas N j n A : Int) ≤ pas N b n A by omega) (show (0 : Int) ≤ 255 by omega)
          omega
        have next : (∃ i : Nat, i ≤ N + 1 ∧ (j : Int) + 1 = (i : Int)) ∧ 1000 - Int.toNat ((j : Int) + 1) < 1000 - Int.toNat (j : Int) := ⟨⟨j + 1, by omega, by omega⟩, by omega⟩
        simp only [f, v, z0, s6, s7, s8, x0, x1, x2, x3, x4, DD.sat, Bool.false_eq_true, false_imp_iff, true_and, and_true, forall_const, Bool.true_eq_false, reduceCtorEq, cmLeq, cmLeqF, cmGeq, cmGeqF]
        refine ⟨fun g1 => ⟨fun g2 => ⟨fun g3 => ⟨fun _ => next, fun g4 => ?_⟩, fun _ => next⟩, fun g2 => ?_⟩, fun g1 => ⟨fun g3 => ⟨fun _ => next, fun g4 => ?_⟩, fun _ => next⟩⟩
        · have := soft (by omega); omega
        · have := hard (by omega); omega
        · have := soft (by omega); omega
      · have := cmLeqF.1 q
        show (∃ i : Nat, i ≤ n ∧ (0 : Int) = (i : Int) ∧ (n : Int) = (n : Int) ∧ (A : Int) = (A : Int)) ∧ 500 - Int.toNat 0 < 1000 - Int.toNat (j : Int)
        exact ⟨⟨0, by omega, rfl, rfl, rfl⟩, by omega⟩
    | n1 p0 p1 p2 =>
      obtain ⟨j, hj, rfl, rfl, rfl⟩ := hI
      show DD.sat _ _ (llrD a0 a1 a2 a3 a4 a5 a6 (.n1 (j : Int) (n : Int) (A : Int)))
      unfold llrD
      simp only [eN, eb, eg, c3, c4, c5, c6]
      have e3 : Ar.run Ar.add IntKind.i64 (j : Int) 1 = (j : Int) + 1 := arAdd (by omega)
      simp only [e3]
      refine ⟨fun q => ?_, fun q => ?_⟩
      · have hlt := cmLss.1 q
        have hjn : j < n := by omega
        have e4 : Ar.run Ar.sub IntKind.i64 (n : Int) 1 = ((n - 1 : Nat) : Int) := by rw [arSub (by omega)]; omega
        obtain ⟨p, d, f, v, l, dl⟩ := lca_pas (N := N) (b := g) (n := n - 1) (A := j) (by omega) (by omega) (by omega) (by omega) (by omega)
        obtain ⟨p', d', f', v', l', dl'⟩ := lca_pas (N := N) (b := b) (n := n - 1) (A := j) (by omega) (by omega) (by omega) (by omega) (by omega)
        have bp' : 1 ≤ bin N (n - 1) := bin_pos _ _ (by omega)
        have i0 := l.p0; have i1 := l.pq; have i2 := l.q1
        have i0' := l'.p0; have i1' := l'.pq; have i2' := l'.q1
        have s6 : Cm.run .lss d 1 = false := cmLssF.2 (by omega)
        have s7 : Cm.run .lss p 0 = false := cmLssF.2 (by omega)
        have s8 : Cm.run .gtr p d = false := cmGtrF.2 (by omega)
        have s6' : Cm.run .lss d' 1 = false := cmLssF.2 (by omega)
        have s7' : Cm.run .lss p' 0 = false := cmLssF.2 (by omega)
        have s8' : Cm.run .gtr p' d' = false := cmGtrF.2 (by omega)
        have m1 := mrng (a := d - p) (b := 255) (A := 562949953421312) (B := 255) (by omega) (by omega)
        have m2 := mrng (a := a3) (b := d) (A := 255) (B := 562949953421312) (by omega) (by omega)
        have m3 := mrng (a := p') (b := 255) (A := 562949953421312) (B := 255) (by omega) (by omega)
        have m4 := mrng (a := a4) (b := d') (A := 255) (B := 562949953421312) (by omega) (by omega)
        have x0 : Ar.run Ar.sub IntKind.i64 d p = d - p := arSub (by omega)
        have x1 : Ar.run Ar.mul IntKind.i64 (d - p) 255 = (d - p) * 255 := arMul (by omega)
        have x2 : Ar.run Ar.mul IntKind.i64 a3 d = a3 * d := arMul (by omega)
        have x3 : Ar.run Ar.mul IntKind.i64 p' 255 = p' * 255 := arMul (by omega)
        have x4 : Ar.run Ar.mul IntKind.i64 a4 d' = a4 * d' := arMul (by omega)
        have next : (∃ i : Nat, i ≤ n ∧ (j : Int) + 1 = (i : Int)) ∧ 500 - Int.toNat ((j : Int) + 1) < 500 - Int.toNat (j : Int) := ⟨⟨j + 1, by omega, by omega⟩, by omega⟩
        simp only [e4, f, v, f', v', z0, s6, s7, s8, s6', s7', s8', x0, x1, x2, x3, x4, DD.sat, Bool.false_eq_true, false_imp_iff, true_and, and_true, forall_const, Bool.true_eq_false, reduceCtorEq, cmLeq, cmLeqF, cmGeq, cmGeqF]
        refine ⟨fun g1 => ⟨fun g2 => ?_, fun _ => next⟩, fun _ => next⟩
        exact absurd ⟨(l.hard bp').1 g1, (l'.soft bp').1 g2⟩ (hNo (n - 1) (by omega) j (by omega))
      · have hmx1 : Ar.run Ar.mx IntKind.i64 a3 a5 = max a3 a5 := arMx
        have hmx2 : Ar.run Ar.mx IntKind.i64 a4 a6 = max a4 a6 := arMx
        obtain ⟨fP', n', A', vP', hn', hA', hK', hNo', _⟩ := lpl_ok (N := N) (g := g) (b := b) (hn := max a3 a5) (hd := 255) (sn := max a4 a6) (sd := 255) (by omega) h3 h4 (by omega) (by omega) (by omega) (by omega)
        obtain ⟨fx, x, vx, hx1, hx2, hx3, hx4⟩ := lbo_ok (N := N) (n := n) (A := A) (rn := a4) (rd := 255) (by omega) hn hA (by omega) (by omega)
        obtain ⟨fy, y, vy, hy1, hy2, hy3, hy4⟩ := lbo_ok (N := N) (n := n) (A := A) (rn := max a4 a6) (rd := 255) (by omega) hn hA (by omega) (by omega)
        have o1 : n' ≤ n := by
          apply Classical.byContradiction
          intro hlt
          exact hNo' n (by omega) A hA (hK.more (by omega) (by omega))
        have o2 : y ≤ x := by
          apply Classical.byContradiction
          intro hlt
          refine hx4 y (by omega) hy2 ?_
          unfold Can at *
          have := Int.mul_le_mul_of_nonneg_right (show a4 ≤ max a4 a6 by omega) (show (0 : Int) ≤ bin N n by omega)
          omega
        simp only [hmx1, hmx2, fP', vP', fx, vx, fy, vy, DD.sat, true_and]
        refine ⟨fun _ => ⟨fun _ => ⟨fun _ => ⟨fun _ => ⟨fun _ => ⟨fun _ => ⟨fun _ => trivial, fun h => ?_⟩, fun h => ?_⟩, fun h => ?_⟩, fun h => ?_⟩, fun h => ?_⟩, fun h => ?_⟩, fun h => ?_⟩
        · have := cmLeqF.1 h; omega
        · have := cmGeqF.1 h; omega
        · have := cmLeqF.1 h; omega
        · exact absurd rfl (cmEqlF.1 h)
        · exact absurd rfl (cmEqlF.1 h)
        · have := cmLeqF.1 h; omega
        · exact absurd rfl (cmEqlF.1 h)) (by
    show DD.sat _ _ (llrD0 a0 a1 a2 a3 a4 a5 a6)
    unfold llrD0
    simp only [eN, eb, eg, c3, c4]
    rw [vP]
    refine ⟨cmNeq.2 (by omega), cmNeq.2 (by omega), fP, fun h => absurd rfl (cmNeq.1 h), fun _ => ?_⟩
    show ∃ j : Nat, j ≤ N + 1 ∧ (0 : Int) = (j : Int) ∧ (n : Int) = (n : Int) ∧ (A : Int) = (A : Int)
    exact ⟨0, by omega, rfl, rfl, rfl⟩)
end Go.Proofs.YtpojncoplaopcaaDoor.Cx

/- ARGUMENTS THAT ARE SLICES: opened as lists; the memory in which they lie as blocks that are read alone; a law's contract as its statement's walk. -/
namespace Go.Proofs.YtpojncoplaopcaaDoor.Cx
set_option linter.unusedSimpArgs false
set_option linter.unusedVariables false
open Go Go.RowKit Go.ChangeShapes Go.WideShapes Go.Deep Go.Proofs.YtpojncoplaopcaaDoor

/-! ## Such slices as blocks -/

section
variable {P : Program} {ρ : Env}

/-- Where a slice's rows lie. -/
noncomputable def locOf (w : World) (v : Value) (z : Nat) : Option Loc :=
  match v with
  | .slice (some a) (_ + 1) _ => match w.heap[a.block]? with
    | some (.cells c _ _) => some ⟨a.block, a.off, c.size, z⟩
    | _ => none
  | _ => none

theorem rows_rel {α : Type} {en : α → List Value} {ec : α → List CV} {d : α} (he : ∀ σ x, VRl ρ σ (ec x) (en x)) (σ : Mp) : ∀ (xs : List α) (n : Nat), n ≤ xs.length → VRl ρ σ (flatR (fun j => ec (xs.getD j d)) n) ((xs.take n).flatMap en)
  | xs, 0, _ => by simpa [flatR] using VRl.nil
  | xs, n + 1, h => by
    have ih := rows_rel (d := d) he σ xs n (by omega)
    rw [flatR, List.take_add_one, List.flatMap_append]
    refine ih.append ?_
    have hn : n < xs.length := by omega
    rw [List.getElem?_eq_getElem hn, List.getD_eq_getElem?_getD, List.getElem?_eq_getElem hn]
    simpa using he σ xs[n]

theorem SlR.rel {α : Type} {en : α → List Value} {ec : α → List CV} {d : α} {z : Nat} {w : World} {v : Value} {xs : List α} {σ : Mp} {b : Nat} (h : SlR en z w v xs) (hz : ∀ x, (en x).length = z) (he : ∀ σ x, VRl ρ σ (ec x) (en x))
    (hk : ∀ j, (ec (xs.getD j d)).length = z ∧ (ec (xs.getD j d)).all CV.flat = true) (hσ : σ b = locOf w v z) :
    VR ρ σ (.sla b z 0 xs.length) v ∧ ArgAt ρ w ⟨.arg xs.length z (fun j => ec (xs.getD j d)) hk, z, true, none⟩ (σ b) := by
  obtain ⟨a, cap, rfl, hcap, _, hx⟩ := h
  have hcl : Blk.cells ⟨.arg xs.length z (fun j => ec (xs.getD j d)) hk, z, true, none⟩ = flatR (fun j => ec (xs.getD j d)) xs.length := rfl
  have hlen := flatR_length (fun j => (hk j).1) xs.length
  rcases hx with rfl | ⟨bl, off, c, t, p, rfl, hh, hsz, hrow⟩
  · refine ⟨.sla0 _ _, rfl, rfl, rfl, fun l hl => ?_⟩
    rw [hσ] at hl
    simp [locOf] at hl
  · cases xs with
    | nil =>
      refine ⟨.sla0 _ _, rfl, rfl, rfl, fun l hl => ?_⟩
      rw [hσ] at hl
      simp [locOf] at hl
    | cons x xs =>
      have hlo : locOf w (.slice (some ⟨bl, off, none⟩) (x :: xs).length cap) z = some ⟨bl, off, c.size, z⟩ := by
        simp [locOf, hh]
      rw [hlo] at hσ
      refine ⟨?_, rfl, rfl, rfl, fun l hl => ?_⟩
      · have := VR.sla (ρ := ρ) (σ := σ) (b := b) (z := z) (o := 0) (n := (x :: xs).length) (c' := cap) hσ hcap
        simpa using this
      · rw [hσ] at hl
        obtain rfl := Option.some.inj hl
        refine ⟨c, t, p, hh, rfl, rfl, by rw [hcl, hlen]; exact hsz, fun τ => ?_⟩
        rw [hcl, hlen, hrow]
        have := rows_rel (ρ := ρ) (d := d) he τ (x :: xs) (x :: xs).length (Nat.le_refl _)
        rwa [List.take_of_length_le (Nat.le_refl _)] at this

/-- A law's contract, as its statement's walk. -/
theorem Ctr.law {f : Nat} {args : List CV} {h0 h1 : Tr Blk} {base n1 : Nat} {e : BE} {w : World} {σ : Mp} {args' : Array Value} (K : Ctr P ρ f args h0 base [] (.bool e) h1 n1) (he : e.den ρ = true) (ha : VRl ρ σ args args'.toList) (hH : HR ρ σ (curOf h0 base) w) (hN : ∀ b, base ≤ b → σ b = none) :
    Calls P f args' w fun e w' => e = .returned (.bool true) ∧ Below w.heap.size w w' := by
  refine ((K.run 0 σ w args' ha hH hN).calls (fun k d h => by cases h)).mono ?_
  rintro e' w' ⟨v, rfl, σ', h1, h2, h3, h4, h5⟩
  cases h2
  refine ⟨by rw [he], h4.os, h4.tape, h4.output, h4.size, fun k hk => h4.block k hk (fun b hb l hl => ?_)⟩
  rcases hb with hb | hb
  · cases hb
  · rw [hN b hb] at hl; cases hl

end
end Go.Proofs.YtpojncoplaopcaaDoor.Cx

/- What the rows' premise on package-level variables says of memory. Made by tools/gen_laid.py. -/
namespace Go.Proofs.YtpojncoplaopcaaDoor
set_option linter.unusedVariables false
set_option maxRecDepth 100000
open Go.ChangeShapes Go.WideShapes Go.ChangeAt Go.RowKit

theorem arr_cells {H : Type} {enc : TypeId × Value → H} {P : Program} {w : World} {sp : Nat → Bool} {held : Bool} {fuel n : Nat} {t e : TypeId} {cs : List Value} {ks : List Int} {k : IntKind} {p : List MemPlace} (ht : P.underlying t = some (.array n e)) (he : P.underlying e = some (.int k)) (hc : P.cellsOf e = 1) (hn : ks.length = n) (hcs : P.cellsOf t = n)
    (h : DataW.trod enc P w 0 sp held fuel t cs = some (.agg (ks.map fun x => .lit (.int k x)), p)) : cs = ks.map fun x => .int k x := by
  obtain ⟨xs, m, rfl, hx, hl, hlen, hel⟩ := DataW.trod_array ht h
  simp only [Prod.mk.injEq, DataW.agg.injEq] at hx
  apply List.ext_getElem?
  intro i
  by_cases hi : i < n
  · have h1 := hel i hi
    rw [hc, Nat.mul_one, List.getElem?_eq_getElem (by omega)] at h1
    obtain ⟨v, e1, e2, _⟩ := DataW.trod_int he h1
    have h2 : (xs.map (·.1))[i]? = (ks.map fun x => DataW.lit (.int k x))[i]? := by rw [hx.1]
    rw [List.getElem?_map, List.getElem?_map, List.getElem?_eq_getElem (show i < xs.length by omega), List.getElem?_eq_getElem (show i < ks.length by omega), e2] at h2
    simp only [Option.map_some, Option.some.injEq, DataW.lit.injEq, Lit.int.injEq, true_and] at h2
    have h3 : (((cs.drop i).take 1))[0]? = some (.int k v) := by rw [e1]; rfl
    rw [List.getElem?_take_of_lt (by decide), List.getElem?_drop, Nat.add_zero] at h3
    rw [h3, List.getElem?_map, List.getElem?_eq_getElem (show i < ks.length by omega), h2]
    rfl
  · rw [List.getElem?_eq_none (by omega), List.getElem?_eq_none (by simp; omega)]

theorem laid_cell {P : Program} {w : World} {nm : String} {g : Nat} {cs : Array Value} {vs : List Value} (hg : P.globalNamed nm = some g) (hv : w.var? P nm = some cs) (hcs : cs.toList = vs) (hf : ∃ c t, w.heap[g]? = some (.cells c t (0, 0))) : ∃ t, w.heap[g]? = some (.cells vs.toArray t (0, 0)) := by
  obtain ⟨c, t, h⟩ := hf
  simp only [World.var?, hg, Option.bind_some, h, Option.some.injEq] at hv
  subst hv
  rw [← hcs]
  exact ⟨t, h⟩

theorem place_here {g n : Nat} (h : 0 < n) : MemPlace.cell g 0 ∈ MemPlace.row ⟨g, 0, none⟩ n := List.mem_map.2 ⟨0, List.mem_range.2 h, rfl⟩

def lk0 : List Int := [0, 1, 28, 2, 29, 14, 24, 3, 30, 22, 20, 15, 25, 17, 4, 8, 31, 27, 13, 23, 21, 19, 16, 7, 26, 12, 18, 6, 11, 5, 10, 9]
theorem lg0 : Tryd.prog.globalNamed "math/bits.deBruijn32tab" = some 0 := by kernel_rfl
theorem lt0 : (Tryd.prog.globals[0]?).map (·.type) = some 147 := by kernel_rfl
theorem ld0 {H : Type} : (Rows.laid_math_bits_deBruijn32tab : DataW H) = .agg (lk0.map fun x => .lit (.int .u8 x)) := by rfl

def lk1 : List Int := [0, 1, 56, 2, 57, 49, 28, 3, 61, 58, 42, 50, 38, 29, 17, 4, 62, 47, 59, 36, 45, 43, 51, 22, 53, 39, 33, 30, 24, 18, 12, 5, 63, 55, 48, 27, 60, 41, 37, 16, 46, 35, 44, 21, 52, 32, 23, 11, 54, 26, 40, 15, 34, 20, 31, 10, 25, 14, 19, 9, 13, 8, 7, 6]
theorem lg1 : Tryd.prog.globalNamed "math/bits.deBruijn64tab" = some 1 := by kernel_rfl
theorem lt1 : (Tryd.prog.globals[1]?).map (·.type) = some 148 := by kernel_rfl
theorem ld1 {H : Type} : (Rows.laid_math_bits_deBruijn64tab : DataW H) = .agg (lk1.map fun x => .lit (.int .u8 x)) := by rfl

abbrev laidL : List (String × DataW Unit) := [("math/bits.deBruijn32tab", Rows.laid_math_bits_deBruijn32tab), ("math/bits.deBruijn64tab", Rows.laid_math_bits_deBruijn64tab)]

/-- The program's own start meets it. -/
theorem door_met (os : Os) (args : Array Value) : laidMetH Tryd.prog laidL ((World.doorLaid Tryd.prog 400 os).forCall (fun _ _ => 0) ⟨#[], args, []⟩).memory :=
  laidMetH_of_parts3 (fuel := 8) (laidMet_of_run' 8 (by kernel_rfl) (by kernel_rfl)) (by kernel_rfl) (by kernel_rfl)

theorem of_laid {W : World} (h : laidMetH Tryd.prog laidL W) : Cx.Laid W := by
  rw [MakeChecks.laidMetH_plain _ _ _ (by kernel_rfl)] at h
  obtain ⟨ps, ⟨g0, t0, cs0, fu0, p0, q0, hg0, ht0, hv0, hd0, ⟨g1, t1, cs1, fu1, p1, q1, hg1, ht1, hv1, hd1, hr, e1⟩, e0⟩, _, hc⟩ := h
  obtain rfl := Option.some.inj (lg0.symm.trans hg0)
  obtain rfl := Option.some.inj (lt0.symm.trans ht0)
  have c0 := arr_cells (ks := lk0) Tryd.underlying147 Tryd.underlying5 (by kernel_rfl) (by rfl) (by kernel_rfl) (hd0.trans (by rw [ld0]))
  have s0 : 0 < cs0.size := by have := congrArg List.length c0; rw [Array.length_toList, List.length_map] at this; rw [this]; decide
  obtain rfl := Option.some.inj (lg1.symm.trans hg1)
  obtain rfl := Option.some.inj (lt1.symm.trans ht1)
  have c1 := arr_cells (ks := lk1) Tryd.underlying148 Tryd.underlying5 (by kernel_rfl) (by rfl) (by kernel_rfl) (hd1.trans (by rw [ld1]))
  have s1 : 0 < cs1.size := by have := congrArg List.length c1; rw [Array.length_toList, List.length_map] at this; rw [this]; decide
  intro x hx
  rcases List.mem_cons.1 hx with rfl | hx
  · exact laid_cell lg0 hv0 c0 (hc 0 0 (by rw [e0]; exact List.mem_append_left _ (List.mem_append_left _ (place_here s0)))).1
  rcases List.mem_cons.1 hx with rfl | hx
  · exact laid_cell lg1 hv1 c1 (hc 1 0 (by rw [e0]; exact List.mem_append_right _ (by rw [e1]; exact List.mem_append_left _ (List.mem_append_left _ (place_here s1))))).1
  cases hx

end Go.Proofs.YtpojncoplaopcaaDoor

/- LotRisks holds, for all inputs: by its automaton. Made by tools/cxlaw.py. -/
namespace Go.Proofs.YtpojncoplaopcaaDoor
set_option linter.unusedVariables false
set_option linter.unusedSimpArgs false
open Go.ChangeShapes Go.WideShapes Go.ChangeAt Go.RowKit
open Cx (Env IE BE DT KnownB)

set_option maxRecDepth 100000 in
theorem lrisks_open0 {H : Type} {enc : TypeId × Value → H} {w : World} {base : Nat} {spare : Nat → Bool} {held : Bool} {r : Reach} {b0 : Nat} {vv : Value} {d : DataW H} {p : List MemPlace} (hval : Value.okWide Tryd.prog w r b0 50 vv) (h : DataW.Trod enc Tryd.prog w base spare held 50 vv d p) :
    ∃ (x0 : Int) (x1 : Int) (x2 : Int), vv = .agg #[.int .u8 x0, .int .u8 x1, .int .u8 x2] ∧ (Lit.int .u8 x0).wf = true ∧ (Lit.int .u8 x1).wf = true ∧ (Lit.int .u8 x2).wf = true := by
  obtain ⟨cs, rfl, hsz⟩ := okWide_arr Tryd.underlying50 hval
  obtain ⟨l⟩ := cs
  obtain ⟨fuel, hf⟩ := h
  have hl : l.length = 3 := hsz.trans (by kernel_rfl)
  obtain ⟨n0, y0, t0⟩ := trodE Tryd.underlying50 hf 0 (by decide) (o := 0) (c := 1) (by kernel_rfl) rfl
  obtain ⟨x0, g0, w0⟩ := leafI Tryd.underlying5 t0
  obtain ⟨n1, y1, t1⟩ := trodE Tryd.underlying50 hf 1 (by decide) (o := 1) (c := 1) (by kernel_rfl) rfl
  obtain ⟨x1, g1, w1⟩ := leafI Tryd.underlying5 t1
  obtain ⟨n2, y2, t2⟩ := trodE Tryd.underlying50 hf 2 (by decide) (o := 2) (c := 1) (by kernel_rfl) rfl
  obtain ⟨x2, g2, w2⟩ := leafI Tryd.underlying5 t2
  refine ⟨x0, x1, x2, ?_, w0, w1, w2⟩
  clear hval hsz hf t0 t1 t2
  match l, hl with
  | [k0, k1, k2], _ =>
    simp [Value.cells] at g0 g1 g2
    subst g0 g1 g2
    rfl

set_option maxRecDepth 100000 in
theorem lrisks_open1 {H : Type} {enc : TypeId × Value → H} {w : World} {base : Nat} {spare : Nat → Bool} {held : Bool} {r : Reach} {b0 : Nat} {vv : Value} {d : DataW H} {p : List MemPlace} (hval : Value.okWide Tryd.prog w r b0 51 vv) (h : DataW.Trod enc Tryd.prog w base spare held 51 vv d p) :
    ∃ (x0 : Int) (x1 : Int), vv = .agg #[.int .u8 x0, .int .u8 x1] ∧ (Lit.int .u8 x0).wf = true ∧ (Lit.int .u8 x1).wf = true := by
  obtain ⟨cs, rfl, hsz⟩ := okWide_arr Tryd.underlying51 hval
  obtain ⟨l⟩ := cs
  obtain ⟨fuel, hf⟩ := h
  have hl : l.length = 2 := hsz.trans (by kernel_rfl)
  obtain ⟨n0, y0, t0⟩ := trodE Tryd.underlying51 hf 0 (by decide) (o := 0) (c := 1) (by kernel_rfl) rfl
  obtain ⟨x0, g0, w0⟩ := leafI Tryd.underlying5 t0
  obtain ⟨n1, y1, t1⟩ := trodE Tryd.underlying51 hf 1 (by decide) (o := 1) (c := 1) (by kernel_rfl) rfl
  obtain ⟨x1, g1, w1⟩ := leafI Tryd.underlying5 t1
  refine ⟨x0, x1, ?_, w0, w1⟩
  clear hval hsz hf t0 t1
  match l, hl with
  | [k0, k1], _ =>
    simp [Value.cells] at g0 g1
    subst g0 g1
    rfl

set_option maxRecDepth 100000 in
theorem lrisks_open2 {H : Type} {enc : TypeId × Value → H} {w : World} {base : Nat} {spare : Nat → Bool} {held : Bool} {r : Reach} {b0 : Nat} {vv : Value} {d : DataW H} {p : List MemPlace} (hval : Value.okWide Tryd.prog w r b0 51 vv) (h : DataW.Trod enc Tryd.prog w base spare held 51 vv d p) :
    ∃ (x0 : Int) (x1 : Int), vv = .agg #[.int .u8 x0, .int .u8 x1] ∧ (Lit.int .u8 x0).wf = true ∧ (Lit.int .u8 x1).wf = true := by
  obtain ⟨cs, rfl, hsz⟩ := okWide_arr Tryd.underlying51 hval
  obtain ⟨l⟩ := cs
  obtain ⟨fuel, hf⟩ := h
  have hl : l.length = 2 := hsz.trans (by kernel_rfl)
  obtain ⟨n0, y0, t0⟩ := trodE Tryd.underlying51 hf 0 (by decide) (o := 0) (c := 1) (by kernel_rfl) rfl
  obtain ⟨x0, g0, w0⟩ := leafI Tryd.underlying5 t0
  obtain ⟨n1, y1, t1⟩ := trodE Tryd.underlying51 hf 1 (by decide) (o := 1) (c := 1) (by kernel_rfl) rfl
  obtain ⟨x1, g1, w1⟩ := leafI Tryd.underlying5 t1
  refine ⟨x0, x1, ?_, w0, w1⟩
  clear hval hsz hf t0 t1
  match l, hl with
  | [k0, k1], _ =>
    simp [Value.cells] at g0 g1
    subst g0 g1
    rfl

theorem lrisks_walk (x0 : Int) (x1 : Int) (x2 : Int) (x3 : Int) (x4 : Int) (x5 : Int) (x6 : Int) (w : World) (hLw : Cx.Laid w) (wx0 : (Lit.int .u8 x0).wf = true) (wx1 : (Lit.int .u8 x1).wf = true) (wx2 : (Lit.int .u8 x2).wf = true) (wx3 : (Lit.int .u8 x3).wf = true) (wx4 : (Lit.int .u8 x4).wf = true) (wx5 : (Lit.int .u8 x5).wf = true) (wx6 : (Lit.int .u8 x6).wf = true) :
    Calls Tryd.prog 5 #[.agg #[.int .u8 x0, .int .u8 x1, .int .u8 x2], .agg #[.int .u8 x3, .int .u8 x4], .agg #[.int .u8 x5, .int .u8 x6]] w fun e w' => e = .returned (.bool true) ∧ Below w.heap.size w w' := by
  obtain ⟨n, v, hv, hp⟩ := Cx.llr_run x0 x1 x2 x3 x4 x5 x6 (rng_u8 wx0) (rng_u8 wx1) (rng_u8 wx2) (rng_u8 wx3) (rng_u8 wx4) (rng_u8 wx5) (rng_u8 wx6)
  exact Cx.Ctr.law (ρ := ⟨fun _ => 0, fun _ => false⟩) (σ := fun _ => none) (e := .x v) (Cx.llrctr x0 x1 x2 x3 x4 x5 x6 Cx.llrmem hv) hp (.cons (.agg (.cons (.int .u8 (.x x0)) (.cons (.int .u8 (.x x1)) (.cons (.int .u8 (.x x2)) .nil)))) (.cons (.agg (.cons (.int .u8 (.x x3)) (.cons (.int .u8 (.x x4)) .nil))) (.cons (.agg (.cons (.int .u8 (.x x5)) (.cons (.int .u8 (.x x6)) .nil))) .nil))) ⟨fun _ _ _ _ _ h => (by cases h), fun _ _ _ _ _ _ _ _ h => (by cases h), fun _ _ _ _ _ _ h => (by cases h), fun _ _ _ _ _ _ _ _ _ _ h => (by cases h), fun y hy => ⟨hLw y hy, fun _ _ _ h => (by cases h)⟩⟩ (fun _ _ => rfl)

theorem lrisks_own : ownKnob Tryd.prog.godebug = none := by kernel_rfl
theorem lrisks_laidOut : laidOutB Tryd.prog = true := by kernel_rfl

set_option maxRecDepth 100000 in
theorem lrisks_lifted (os : Os) (started : os.Started) (H : Type) (enc : TypeId × Value → H) :
    ReturnsInHanded {} Tryd.checked os 5 .any (fun w args => (Rows.lotRisksSpec.pre enc Tryd.prog Tryd.f5 [] false w args ∧ laidMetH Tryd.prog laidL w) ∧ sizedMet enc Tryd.prog Tryd.f5 (OpenSpec.ofChange Rows.lotRisksSpec) false w args)
      (Rows.lotRisksSpec.post enc Tryd.prog Tryd.f5 false true false false) := by
  refine returnsInHanded_of_change_and (C := Tryd.checked) (X := fun w _ => laidMetH Tryd.prog laidL w) (fun _ _ _ hh h => h.of_heap hh) lrisks_own started (by kernel_rfl) Tryd.func5
    (ChangeSpec.witness_shaped (enc := enc) (C := Tryd.checked) (os := os) (X := fun w _ => laidMetH Tryd.prog laidL w) false (World.doorLaid Tryd.prog 400 os) #[.agg #[.int .u8 0, .int .u8 0, .int .u8 0], .agg #[.int .u8 0, .int .u8 0], .agg #[.int .u8 0, .int .u8 0]] 8 rfl (World.shaped_of_RefB (by kernel_rfl) (by kernel_rfl)) (by kernel_rfl) (by kernel_rfl) (by kernel_rfl) (door_met os _)) ?_
  intro W base args ds gs before hval0 hW _ _ hLd _
  have hval : ∀ (j : Nat) t v, Tryd.f5.params[j]? = some t → args[j]? = some v → Value.okWide Tryd.prog W .any base t v := hval0
  have hW' := hW
  obtain ⟨p, q, hA0, hV, rfl, hfz, hnd⟩ := hW
  have hA : DataW.TrodAll enc Tryd.prog W 0 (fun _ => true) true Tryd.f5.params.toList args.toList ds p := hA0
  rw [Tryd.params5] at hA hval
  obtain ⟨v0, vs0, d0, ds0, p0, q0, hargs, rfl, rfl, h0, r0⟩ := trodAll_cons hA
  obtain ⟨v1, vs1, d1, ds1, p1, q1, rfl, rfl, rfl, h1, r1⟩ := trodAll_cons r0
  obtain ⟨v2, vs2, d2, ds2, p2, q2, rfl, rfl, rfl, h2, r2⟩ := trodAll_cons r1
  obtain ⟨rfl, rfl, rfl⟩ := trodAll_nil r2
  obtain rfl : args = #[v0, v1, v2] := by cases args; simp_all
  obtain ⟨rfl, rfl⟩ := trodVars_none hV
  have k0 := h0
  have lt0 : ∀ x ∈ p0, x.block < W.heap.size := by obtain ⟨m, hm⟩ := k0; exact DataW.trod_lt m _ _ _ hm
  have k1 := h1
  have lt1 : ∀ x ∈ p1, x.block < W.heap.size := by obtain ⟨m, hm⟩ := k1; exact DataW.trod_lt m _ _ _ hm
  have k2 := h2
  have lt2 : ∀ x ∈ p2, x.block < W.heap.size := by obtain ⟨m, hm⟩ := k2; exact DataW.trod_lt m _ _ _ hm
  obtain ⟨x0, x1, x2, rfl, wx0, wx1, wx2⟩ := lrisks_open0 (hval 0 50 v0 rfl rfl) h0
  obtain ⟨x3, x4, rfl, wx3, wx4⟩ := lrisks_open1 (hval 1 51 v1 rfl rfl) h1
  obtain ⟨x5, x6, rfl, wx5, wx6⟩ := lrisks_open2 (hval 2 51 v2 rfl rfl) h2
  clear hA0 hval0
  refine (lrisks_walk x0 x1 x2 x3 x4 x5 x6 W (of_laid hLd) wx0 wx1 wx2 wx3 wx4 wx5 wx6).mono fun e W' ⟨he, bel⟩ => ?_
  subst he
  exact ⟨_, rfl, _, _, _, [], _, [], hW', trodAll_mk1 (shut_bool Tryd.underlying4 _), (trodAll_cons_mk (Below.trod lrisks_laidOut (by kernel_rfl) (of_decide_eq_true (by kernel_rfl)) k0 bel lt0) (trodAll_cons_mk (Below.trod lrisks_laidOut (by kernel_rfl) (of_decide_eq_true (by kernel_rfl)) k1 bel lt1) (trodAll_cons_mk (Below.trod lrisks_laidOut (by kernel_rfl) (of_decide_eq_true (by kernel_rfl)) k2 bel lt2) trodAll_mk0))), rfl, bel.frame _, fun h => by cases h⟩

theorem lrisks_over : Rows.lotRisksRow.holds Tryd.pinned (OpenSpec.ofChange Rows.lotRisksSpec) :=
  OpenClaim.holds_of_wide 5 Tryd.f5 rfl rfl rfl rfl rfl rfl rfl ⟨rfl, rfl, rfl, rfl, rfl⟩ rfl rfl rfl rfl rfl (by kernel_rfl) Tryd.func5 (by kernel_rfl)
    (of_decide_eq_true (by kernel_rfl)) (by unfold Func.isWrapper; rw [if_neg (of_decide_eq_false (by kernel_rfl))]; exact ⟨rfl, rfl⟩)
    (fun os started H enc _ => lrisks_lifted os started H enc)

theorem lrisks_proved : Rows.LotRisksCardSaid :=
  Claim7.holds_tied_plain_at .later [] [.data, .data] true (true, "52739f66c1efddf15e985fdf60a27055599c35910d891fd34423f67e856a23b7") false
    lrisks_over (fun _ h => by cases h) (by kernel_rfl) (fun _ h => by cases h) lotRisks_row_tie rfl ⟨rfl, rfl⟩ (by kernel_rfl) rfl
    (fun f fn hf hfn => by
      obtain rfl : f = 5 := Option.some.inj ((show Tryd.prog.funcNamed "acme/acmelaw11.LotRisks" = some 5 by kernel_rfl).symm.trans hf) |>.symm
      obtain rfl : fn = Tryd.f5 := (Option.some.inj (Tryd.func5.symm.trans hfn)).symm
      exact ⟨by kernel_rfl, fun j t ht => by
        rw [Tryd.params5] at ht
        have hm : t ∈ [50, 51, 51] := by simpa using Array.mem_of_getElem? ht
        have hall : ([50, 51, 51].all fun u => !Tryd.prog.wantsStandIn u) = true := by kernel_rfl
        exact (show Tryd.prog.wantsStandIn t = false by simpa using List.all_eq_true.1 hall t hm)⟩)
    (by kernel_rfl)
#print axioms lrisks_proved

end Go.Proofs.YtpojncoplaopcaaDoor
