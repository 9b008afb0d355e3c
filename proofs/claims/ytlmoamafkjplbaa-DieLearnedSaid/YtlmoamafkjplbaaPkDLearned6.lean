/- (acme/die.shop).reach as an automaton. Made by tools/cxauto.py. -/
import Derived.Test.YtlmoamafkjplbaaPkDLearned5

namespace Go.Proofs.Ytlmoamafkjplbaa.Cx
set_option linter.unusedVariables false
set_option linter.unusedSimpArgs false
set_option maxRecDepth 100000
open Go Go.Proofs Go.RowKit

noncomputable abbrev drcCode : Code := funcCode Try.f67


noncomputable abbrev drcs0Code : Code := funcCode Try.f87


inductive drcs0N where
  | n0 (q0 : Int) (q1 : Int) (q2 : Int) (q3 : Int) (q4 : Int) (q5 : Int)

inductive drcs0R where
  | r0 (q0 : Int) (q1 : Int) (q2 : Int) (q3 : Int)
  | r1 (q0 : Int) (q1 : Int) (q2 : Int) (q3 : Int) (q4 : Int)

noncomputable def drcs0D0 (a0 : Bool) (a1 : Int) (a2 : Int) (a3 : Int) (a4 : Int) (a5 : Nat) (a6 : Nat → Int) (a7 : Nat → Int) (a8 : Nat) (a9 : Nat → Int) (a10 : Nat → Int) (a11 : Nat → Int) (a12 : Nat → Int) (a13 : Int) (a14 : Int) (a15 : Int) (a16 : Int) (a17 : Int) : DD (Lf drcs0N drcs0R) :=
 .leaf (.next (.n0 0 0 a14 a15 0 0) [])

noncomputable def drcs0D (a0 : Bool) (a1 : Int) (a2 : Int) (a3 : Int) (a4 : Int) (a5 : Nat) (a6 : Nat → Int) (a7 : Nat → Int) (a8 : Nat) (a9 : Nat → Int) (a10 : Nat → Int) (a11 : Nat → Int) (a12 : Nat → Int) (a13 : Int) (a14 : Int) (a15 : Int) (a16 : Int) (a17 : Int) : drcs0N → DD (Lf drcs0N drcs0R)
 | .n0 q0 q1 q2 q3 q4 q5 =>
 .ask (Cm.run Cm.lss q1 (↑a8 : Int))
   (.must (decide (0 ≤ q1))
   (.must (decide (q1 < (↑a8 : Int)))
   (.must (decide (0 + Int.toNat q1 < a8))
   (.ask (Cm.run Cm.gtr (Ar.run Ar.sub IntKind.i64 (Ar.run Ar.mn IntKind.i64 (Ar.run Ar.add IntKind.i64 q0 (a9 (0 + Int.toNat q1))) a17) (Ar.run Ar.mx IntKind.i64 q0 a16)) 0)
   (.must (decide (0 + a5 ≤ a5))
   (.must (ShapeOk [some IntKind.i64, some IntKind.i64] (tabOf a5 fun i => [CV.int IntKind.i64 (IE.x (a6 (0 + i))), CV.int IntKind.i64 (IE.x (a7 (0 + i)))]) fun i => [CV.int IntKind.i64 (IE.x (a6 (0 + i))), CV.int IntKind.i64 (IE.x (a7 (0 + i)))])
   (.must (decide (0 + a8 ≤ a8))
   (.must (ShapeOk [some IntKind.i64, some IntKind.i64, some IntKind.i64, some IntKind.i64] (tabOf a8 fun i => [CV.int IntKind.i64 (IE.x (a9 (0 + i))), CV.int IntKind.i64 (IE.x (a10 (0 + i))), CV.int IntKind.i64 (IE.x (a11 (0 + i))), CV.int IntKind.i64 (IE.x (a12 (0 + i)))]) fun i => [CV.int IntKind.i64 (IE.x (a9 (0 + i))), CV.int IntKind.i64 (IE.x (a10 (0 + i))), CV.int IntKind.i64 (IE.x (a11 (0 + i))), CV.int IntKind.i64 (IE.x (a12 (0 + i)))])
   (.must (AF.fin (dseA (Ar.run Ar.sub IntKind.i64 (Ar.run Ar.mn IntKind.i64 (Ar.run Ar.add IntKind.i64 q0 (a9 (0 + Int.toNat q1))) a17) (Ar.run Ar.mx IntKind.i64 q0 a16)) q2 q3 a0 a1 a2 a3 a4 a5 (fun i => a6 (0 + i)) (fun i => a7 (0 + i)) a8 (fun i => a9 (0 + i)) (fun i => a10 (0 + i)) (fun i => a11 (0 + i)) (fun i => a12 (0 + i)) a13 (a9 (0 + Int.toNat q1)) (a10 (0 + Int.toNat q1)) (a11 (0 + Int.toNat q1)) (a12 (0 + Int.toNat q1)) (Ar.run Ar.mx IntKind.i64 q0 a16) (Ar.run Ar.mn IntKind.i64 (Ar.run Ar.add IntKind.i64 q0 (a9 (0 + Int.toNat q1))) a17) q4 q5))
   (.ask (Cm.run Cm.gtr (AF.val (dseA (Ar.run Ar.sub IntKind.i64 (Ar.run Ar.mn IntKind.i64 (Ar.run Ar.add IntKind.i64 q0 (a9 (0 + Int.toNat q1))) a17) (Ar.run Ar.mx IntKind.i64 q0 a16)) q2 q3 a0 a1 a2 a3 a4 a5 (fun i => a6 (0 + i)) (fun i => a7 (0 + i)) a8 (fun i => a9 (0 + i)) (fun i => a10 (0 + i)) (fun i => a11 (0 + i)) (fun i => a12 (0 + i)) a13 (a9 (0 + Int.toNat q1)) (a10 (0 + Int.toNat q1)) (a11 (0 + Int.toNat q1)) (a12 (0 + Int.toNat q1)) (Ar.run Ar.mx IntKind.i64 q0 a16) (Ar.run Ar.mn IntKind.i64 (Ar.run Ar.add IntKind.i64 q0 (a9 (0 + Int.toNat q1))) a17) q4 q5)) 0)
   (.must (decide (0 + a5 ≤ a5))
   (.must (ShapeOk [some IntKind.i64, some IntKind.i64] (tabOf a5 fun i => [CV.int IntKind.i64 (IE.x (a6 (0 + i))), CV.int IntKind.i64 (IE.x (a7 (0 + i)))]) fun i => [CV.int IntKind.i64 (IE.x (a6 (0 + i))), CV.int IntKind.i64 (IE.x (a7 (0 + i)))])
   (.must (decide (0 + a8 ≤ a8))
   (.must (ShapeOk [some IntKind.i64, some IntKind.i64, some IntKind.i64, some IntKind.i64] (tabOf a8 fun i => [CV.int IntKind.i64 (IE.x (a9 (0 + i))), CV.int IntKind.i64 (IE.x (a10 (0 + i))), CV.int IntKind.i64 (IE.x (a11 (0 + i))), CV.int IntKind.i64 (IE.x (a12 (0 + i)))]) fun i => [CV.int IntKind.i64 (IE.x (a9 (0 + i))), CV.int IntKind.i64 (IE.x (a10 (0 + i))), CV.int IntKind.i64 (IE.x (a11 (0 + i))), CV.int IntKind.i64 (IE.x (a12 (0 + i)))])
   (.must (AF.fin (dtgA a0 a1 a2 a3 a4 a5 (fun i => a6 (0 + i)) (fun i => a7 (0 + i)) a8 (fun i => a9 (0 + i)) (fun i => a10 (0 + i)) (fun i => a11 (0 + i)) (fun i => a12 (0 + i)) a13 (a11 (0 + Int.toNat q1)) (a12 (0 + Int.toNat q1)) q4 q5))
   (.must (decide (0 + a5 ≤ a5))
   (.must (ShapeOk [some IntKind.i64, some IntKind.i64] (tabOf a5 fun i => [CV.int IntKind.i64 (IE.x (a6 (0 + i))), CV.int IntKind.i64 (IE.x (a7 (0 + i)))]) fun i => [CV.int IntKind.i64 (IE.x (a6 (0 + i))), CV.int IntKind.i64 (IE.x (a7 (0 + i)))])
   (.must (decide (0 + a8 ≤ a8))
   (.must (ShapeOk [some IntKind.i64, some IntKind.i64, some IntKind.i64, some IntKind.i64] (tabOf a8 fun i => [CV.int IntKind.i64 (IE.x (a9 (0 + i))), CV.int IntKind.i64 (IE.x (a10 (0 + i))), CV.int IntKind.i64 (IE.x (a11 (0 + i))), CV.int IntKind.i64 (IE.x (a12 (0 + i)))]) fun i => [CV.int IntKind.i64 (IE.x (a9 (0 + i))), CV.int IntKind.i64 (IE.x (a10 (0 + i))), CV.int IntKind.i64 (IE.x (a11 (0 + i))), CV.int IntKind.i64 (IE.x (a12 (0 + i)))])
   (.must (AF.fin (dwoA a0 a1 a2 a3 a4 a5 (fun i => a6 (0 + i)) (fun i => a7 (0 + i)) a8 (fun i => a9 (0 + i)) (fun i => a10 (0 + i)) (fun i => a11 (0 + i)) (fun i => a12 (0 + i)) a13 q4 q5 (a10 (0 + Int.toNat q1)) (Ar.run Ar.sub IntKind.i64 (AF.val (dseA (Ar.run Ar.sub IntKind.i64 (Ar.run Ar.mn IntKind.i64 (Ar.run Ar.add IntKind.i64 q0 (a9 (0 + Int.toNat q1))) a17) (Ar.run Ar.mx IntKind.i64 q0 a16)) q2 q3 a0 a1 a2 a3 a4 a5 (fun i => a6 (0 + i)) (fun i => a7 (0 + i)) a8 (fun i => a9 (0 + i)) (fun i => a10 (0 + i)) (fun i => a11 (0 + i)) (fun i => a12 (0 + i)) a13 (a9 (0 + Int.toNat q1)) (a10 (0 + Int.toNat q1)) (a11 (0 + Int.toNat q1)) (a12 (0 + Int.toNat q1)) (Ar.run Ar.mx IntKind.i64 q0 a16) (Ar.run Ar.mn IntKind.i64 (Ar.run Ar.add IntKind.i64 q0 (a9 (0 + Int.toNat q1))) a17) q4 q5)) 1)))
   (.must (decide (0 + a5 ≤ a5))
   (.must (ShapeOk [some IntKind.i64, some IntKind.i64] (tabOf a5 fun i => [CV.int IntKind.i64 (IE.x (a6 (0 + i))), CV.int IntKind.i64 (IE.x (a7 (0 + i)))]) fun i => [CV.int IntKind.i64 (IE.x (a6 (0 + i))), CV.int IntKind.i64 (IE.x (a7 (0 + i)))])
   (.must (decide (0 + a8 ≤ a8))
   (.must (ShapeOk [some IntKind.i64, some IntKind.i64, some IntKind.i64, some IntKind.i64] (tabOf a8 fun i => [CV.int IntKind.i64 (IE.x (a9 (0 + i))), CV.int IntKind.i64 (IE.x (a10 (0 + i))), CV.int IntKind.i64 (IE.x (a11 (0 + i))), CV.int IntKind.i64 (IE.x (a12 (0 + i)))]) fun i => [CV.int IntKind.i64 (IE.x (a9 (0 + i))), CV.int IntKind.i64 (IE.x (a10 (0 + i))), CV.int IntKind.i64 (IE.x (a11 (0 + i))), CV.int IntKind.i64 (IE.x (a12 (0 + i)))])
   (.must (AF.fin (dtgA a0 a1 a2 a3 a4 a5 (fun i => a6 (0 + i)) (fun i => a7 (0 + i)) a8 (fun i => a9 (0 + i)) (fun i => a10 (0 + i)) (fun i => a11 (0 + i)) (fun i => a12 (0 + i)) a13 (a11 (0 + Int.toNat q1)) (a12 (0 + Int.toNat q1)) (Prod.fst (AF.val (dwoA a0 a1 a2 a3 a4 a5 (fun i => a6 (0 + i)) (fun i => a7 (0 + i)) a8 (fun i => a9 (0 + i)) (fun i => a10 (0 + i)) (fun i => a11 (0 + i)) (fun i => a12 (0 + i)) a13 q4 q5 (a10 (0 + Int.toNat q1)) (Ar.run Ar.sub IntKind.i64 (AF.val (dseA (Ar.run Ar.sub IntKind.i64 (Ar.run Ar.mn IntKind.i64 (Ar.run Ar.add IntKind.i64 q0 (a9 (0 + Int.toNat q1))) a17) (Ar.run Ar.mx IntKind.i64 q0 a16)) q2 q3 a0 a1 a2 a3 a4 a5 (fun i => a6 (0 + i)) (fun i => a7 (0 + i)) a8 (fun i => a9 (0 + i)) (fun i => a10 (0 + i)) (fun i => a11 (0 + i)) (fun i => a12 (0 + i)) a13 (a9 (0 + Int.toNat q1)) (a10 (0 + Int.toNat q1)) (a11 (0 + Int.toNat q1)) (a12 (0 + Int.toNat q1)) (Ar.run Ar.mx IntKind.i64 q0 a16) (Ar.run Ar.mn IntKind.i64 (Ar.run Ar.add IntKind.i64 q0 (a9 (0 + Int.toNat q1))) a17) q4 q5)) 1)))) (Prod.snd (AF.val (dwoA a0 a1 a2 a3 a4 a5 (fun i => a6 (0 + i)) (fun i => a7 (0 + i)) a8 (fun i => a9 (0 + i)) (fun i => a10 (0 + i)) (fun i => a11 (0 + i)) (fun i => a12 (0 + i)) a13 q4 q5 (a10 (0 + Int.toNat q1)) (Ar.run Ar.sub IntKind.i64 (AF.val (dseA (Ar.run Ar.sub IntKind.i64 (Ar.run Ar.mn IntKind.i64 (Ar.run Ar.add IntKind.i64 q0 (a9 (0 + Int.toNat q1))) a17) (Ar.run Ar.mx IntKind.i64 q0 a16)) q2 q3 a0 a1 a2 a3 a4 a5 (fun i => a6 (0 + i)) (fun i => a7 (0 + i)) a8 (fun i => a9 (0 + i)) (fun i => a10 (0 + i)) (fun i => a11 (0 + i)) (fun i => a12 (0 + i)) a13 (a9 (0 + Int.toNat q1)) (a10 (0 + Int.toNat q1)) (a11 (0 + Int.toNat q1)) (a12 (0 + Int.toNat q1)) (Ar.run Ar.mx IntKind.i64 q0 a16) (Ar.run Ar.mn IntKind.i64 (Ar.run Ar.add IntKind.i64 q0 (a9 (0 + Int.toNat q1))) a17) q4 q5)) 1))))))
   (.ask (Cm.run Cm.lss (AF.val (dseA (Ar.run Ar.sub IntKind.i64 (Ar.run Ar.mn IntKind.i64 (Ar.run Ar.add IntKind.i64 q0 (a9 (0 + Int.toNat q1))) a17) (Ar.run Ar.mx IntKind.i64 q0 a16)) q2 q3 a0 a1 a2 a3 a4 a5 (fun i => a6 (0 + i)) (fun i => a7 (0 + i)) a8 (fun i => a9 (0 + i)) (fun i => a10 (0 + i)) (fun i => a11 (0 + i)) (fun i => a12 (0 + i)) a13 (a9 (0 + Int.toNat q1)) (a10 (0 + Int.toNat q1)) (a11 (0 + Int.toNat q1)) (a12 (0 + Int.toNat q1)) (Ar.run Ar.mx IntKind.i64 q0 a16) (Ar.run Ar.mn IntKind.i64 (Ar.run Ar.add IntKind.i64 q0 (a9 (0 + Int.toNat q1))) a17) q4 q5)) (Ar.run Ar.sub IntKind.i64 (Ar.run Ar.mn IntKind.i64 (Ar.run Ar.add IntKind.i64 q0 (a9 (0 + Int.toNat q1))) a17) (Ar.run Ar.mx IntKind.i64 q0 a16)))
   (.leaf (.done (.r1 (Ar.run Ar.mx IntKind.i64 (Ar.run Ar.mx IntKind.i64 q2 (Prod.fst (AF.val (dtgA a0 a1 a2 a3 a4 a5 (fun i => a6 (0 + i)) (fun i => a7 (0 + i)) a8 (fun i => a9 (0 + i)) (fun i => a10 (0 + i)) (fun i => a11 (0 + i)) (fun i => a12 (0 + i)) a13 (a11 (0 + Int.toNat q1)) (a12 (0 + Int.toNat q1)) q4 q5)))) (Prod.fst (AF.val (dtgA a0 a1 a2 a3 a4 a5 (fun i => a6 (0 + i)) (fun i => a7 (0 + i)) a8 (fun i => a9 (0 + i)) (fun i => a10 (0 + i)) (fun i => a11 (0 + i)) (fun i => a12 (0 + i)) a13 (a11 (0 + Int.toNat q1)) (a12 (0 + Int.toNat q1)) (Prod.fst (AF.val (dwoA a0 a1 a2 a3 a4 a5 (fun i => a6 (0 + i)) (fun i => a7 (0 + i)) a8 (fun i => a9 (0 + i)) (fun i => a10 (0 + i)) (fun i => a11 (0 + i)) (fun i => a12 (0 + i)) a13 q4 q5 (a10 (0 + Int.toNat q1)) (Ar.run Ar.sub IntKind.i64 (AF.val (dseA (Ar.run Ar.sub IntKind.i64 (Ar.run Ar.mn IntKind.i64 (Ar.run Ar.add IntKind.i64 q0 (a9 (0 + Int.toNat q1))) a17) (Ar.run Ar.mx IntKind.i64 q0 a16)) q2 q3 a0 a1 a2 a3 a4 a5 (fun i => a6 (0 + i)) (fun i => a7 (0 + i)) a8 (fun i => a9 (0 + i)) (fun i => a10 (0 + i)) (fun i => a11 (0 + i)) (fun i => a12 (0 + i)) a13 (a9 (0 + Int.toNat q1)) (a10 (0 + Int.toNat q1)) (a11 (0 + Int.toNat q1)) (a12 (0 + Int.toNat q1)) (Ar.run Ar.mx IntKind.i64 q0 a16) (Ar.run Ar.mn IntKind.i64 (Ar.run Ar.add IntKind.i64 q0 (a9 (0 + Int.toNat q1))) a17) q4 q5)) 1)))) (Prod.snd (AF.val (dwoA a0 a1 a2 a3 a4 a5 (fun i => a6 (0 + i)) (fun i => a7 (0 + i)) a8 (fun i => a9 (0 + i)) (fun i => a10 (0 + i)) (fun i => a11 (0 + i)) (fun i => a12 (0 + i)) a13 q4 q5 (a10 (0 + Int.toNat q1)) (Ar.run Ar.sub IntKind.i64 (AF.val (dseA (Ar.run Ar.sub IntKind.i64 (Ar.run Ar.mn IntKind.i64 (Ar.run Ar.add IntKind.i64 q0 (a9 (0 + Int.toNat q1))) a17) (Ar.run Ar.mx IntKind.i64 q0 a16)) q2 q3 a0 a1 a2 a3 a4 a5 (fun i => a6 (0 + i)) (fun i => a7 (0 + i)) a8 (fun i => a9 (0 + i)) (fun i => a10 (0 + i)) (fun i => a11 (0 + i)) (fun i => a12 (0 + i)) a13 (a9 (0 + Int.toNat q1)) (a10 (0 + Int.toNat q1)) (a11 (0 + Int.toNat q1)) (a12 (0 + Int.toNat q1)) (Ar.run Ar.mx IntKind.i64 q0 a16) (Ar.run Ar.mn IntKind.i64 (Ar.run Ar.add IntKind.i64 q0 (a9 (0 + Int.toNat q1))) a17) q4 q5)) 1)))))))) (Ar.run Ar.mn IntKind.i64 (Ar.run Ar.mn IntKind.i64 q3 (Prod.snd (AF.val (dtgA a0 a1 a2 a3 a4 a5 (fun i => a6 (0 + i)) (fun i => a7 (0 + i)) a8 (fun i => a9 (0 + i)) (fun i => a10 (0 + i)) (fun i => a11 (0 + i)) (fun i => a12 (0 + i)) a13 (a11 (0 + Int.toNat q1)) (a12 (0 + Int.toNat q1)) q4 q5)))) (Prod.snd (AF.val (dtgA a0 a1 a2 a3 a4 a5 (fun i => a6 (0 + i)) (fun i => a7 (0 + i)) a8 (fun i => a9 (0 + i)) (fun i => a10 (0 + i)) (fun i => a11 (0 + i)) (fun i => a12 (0 + i)) a13 (a11 (0 + Int.toNat q1)) (a12 (0 + Int.toNat q1)) (Prod.fst (AF.val (dwoA a0 a1 a2 a3 a4 a5 (fun i => a6 (0 + i)) (fun i => a7 (0 + i)) a8 (fun i => a9 (0 + i)) (fun i => a10 (0 + i)) (fun i => a11 (0 + i)) (fun i => a12 (0 + i)) a13 q4 q5 (a10 (0 + Int.toNat q1)) (Ar.run Ar.sub IntKind.i64 (AF.val (dseA (Ar.run Ar.sub IntKind.i64 (Ar.run Ar.mn IntKind.i64 (Ar.run Ar.add IntKind.i64 q0 (a9 (0 + Int.toNat q1))) a17) (Ar.run Ar.mx IntKind.i64 q0 a16)) q2 q3 a0 a1 a2 a3 a4 a5 (fun i => a6 (0 + i)) (fun i => a7 (0 + i)) a8 (fun i => a9 (0 + i)) (fun i => a10 (0 + i)) (fun i => a11 (0 + i)) (fun i => a12 (0 + i)) a13 (a9 (0 + Int.toNat q1)) (a10 (0 + Int.toNat q1)) (a11 (0 + Int.toNat q1)) (a12 (0 + Int.toNat q1)) (Ar.run Ar.mx IntKind.i64 q0 a16) (Ar.run Ar.mn IntKind.i64 (Ar.run Ar.add IntKind.i64 q0 (a9 (0 + Int.toNat q1))) a17) q4 q5)) 1)))) (Prod.snd (AF.val (dwoA a0 a1 a2 a3 a4 a5 (fun i => a6 (0 + i)) (fun i => a7 (0 + i)) a8 (fun i => a9 (0 + i)) (fun i => a10 (0 + i)) (fun i => a11 (0 + i)) (fun i => a12 (0 + i)) a13 q4 q5 (a10 (0 + Int.toNat q1)) (Ar.run Ar.sub IntKind.i64 (AF.val (dseA (Ar.run Ar.sub IntKind.i64 (Ar.run Ar.mn IntKind.i64 (Ar.run Ar.add IntKind.i64 q0 (a9 (0 + Int.toNat q1))) a17) (Ar.run Ar.mx IntKind.i64 q0 a16)) q2 q3 a0 a1 a2 a3 a4 a5 (fun i => a6 (0 + i)) (fun i => a7 (0 + i)) a8 (fun i => a9 (0 + i)) (fun i => a10 (0 + i)) (fun i => a11 (0 + i)) (fun i => a12 (0 + i)) a13 (a9 (0 + Int.toNat q1)) (a10 (0 + Int.toNat q1)) (a11 (0 + Int.toNat q1)) (a12 (0 + Int.toNat q1)) (Ar.run Ar.mx IntKind.i64 q0 a16) (Ar.run Ar.mn IntKind.i64 (Ar.run Ar.add IntKind.i64 q0 (a9 (0 + Int.toNat q1))) a17) q4 q5)) 1)))))))) (Ar.run Ar.add IntKind.i64 (Ar.run Ar.mx IntKind.i64 q0 a16) (AF.val (dseA (Ar.run Ar.sub IntKind.i64 (Ar.run Ar.mn IntKind.i64 (Ar.run Ar.add IntKind.i64 q0 (a9 (0 + Int.toNat q1))) a17) (Ar.run Ar.mx IntKind.i64 q0 a16)) q2 q3 a0 a1 a2 a3 a4 a5 (fun i => a6 (0 + i)) (fun i => a7 (0 + i)) a8 (fun i => a9 (0 + i)) (fun i => a10 (0 + i)) (fun i => a11 (0 + i)) (fun i => a12 (0 + i)) a13 (a9 (0 + Int.toNat q1)) (a10 (0 + Int.toNat q1)) (a11 (0 + Int.toNat q1)) (a12 (0 + Int.toNat q1)) (Ar.run Ar.mx IntKind.i64 q0 a16) (Ar.run Ar.mn IntKind.i64 (Ar.run Ar.add IntKind.i64 q0 (a9 (0 + Int.toNat q1))) a17) q4 q5))) q4 q5) []))
   (.must (decide (0 + a5 ≤ a5))
   (.must (ShapeOk [some IntKind.i64, some IntKind.i64] (tabOf a5 fun i => [CV.int IntKind.i64 (IE.x (a6 (0 + i))), CV.int IntKind.i64 (IE.x (a7 (0 + i)))]) fun i => [CV.int IntKind.i64 (IE.x (a6 (0 + i))), CV.int IntKind.i64 (IE.x (a7 (0 + i)))])
   (.must (decide (0 + a8 ≤ a8))
   (.must (ShapeOk [some IntKind.i64, some IntKind.i64, some IntKind.i64, some IntKind.i64] (tabOf a8 fun i => [CV.int IntKind.i64 (IE.x (a9 (0 + i))), CV.int IntKind.i64 (IE.x (a10 (0 + i))), CV.int IntKind.i64 (IE.x (a11 (0 + i))), CV.int IntKind.i64 (IE.x (a12 (0 + i)))]) fun i => [CV.int IntKind.i64 (IE.x (a9 (0 + i))), CV.int IntKind.i64 (IE.x (a10 (0 + i))), CV.int IntKind.i64 (IE.x (a11 (0 + i))), CV.int IntKind.i64 (IE.x (a12 (0 + i)))])
   (.must (AF.fin (dwoA a0 a1 a2 a3 a4 a5 (fun i => a6 (0 + i)) (fun i => a7 (0 + i)) a8 (fun i => a9 (0 + i)) (fun i => a10 (0 + i)) (fun i => a11 (0 + i)) (fun i => a12 (0 + i)) a13 q4 q5 (a10 (0 + Int.toNat q1)) (AF.val (dseA (Ar.run Ar.sub IntKind.i64 (Ar.run Ar.mn IntKind.i64 (Ar.run Ar.add IntKind.i64 q0 (a9 (0 + Int.toNat q1))) a17) (Ar.run Ar.mx IntKind.i64 q0 a16)) q2 q3 a0 a1 a2 a3 a4 a5 (fun i => a6 (0 + i)) (fun i => a7 (0 + i)) a8 (fun i => a9 (0 + i)) (fun i => a10 (0 + i)) (fun i => a11 (0 + i)) (fun i => a12 (0 + i)) a13 (a9 (0 + Int.toNat q1)) (a10 (0 + Int.toNat q1)) (a11 (0 + Int.toNat q1)) (a12 (0 + Int.toNat q1)) (Ar.run Ar.mx IntKind.i64 q0 a16) (Ar.run Ar.mn IntKind.i64 (Ar.run Ar.add IntKind.i64 q0 (a9 (0 + Int.toNat q1))) a17) q4 q5))))
   (.leaf (.next (.n0 (Ar.run Ar.add IntKind.i64 q0 (a9 (0 + Int.toNat q1))) (Ar.run Ar.add IntKind.i64 q1 1) (Ar.run Ar.mx IntKind.i64 (Ar.run Ar.mx IntKind.i64 q2 (Prod.fst (AF.val (dtgA a0 a1 a2 a3 a4 a5 (fun i => a6 (0 + i)) (fun i => a7 (0 + i)) a8 (fun i => a9 (0 + i)) (fun i => a10 (0 + i)) (fun i => a11 (0 + i)) (fun i => a12 (0 + i)) a13 (a11 (0 + Int.toNat q1)) (a12 (0 + Int.toNat q1)) q4 q5)))) (Prod.fst (AF.val (dtgA a0 a1 a2 a3 a4 a5 (fun i => a6 (0 + i)) (fun i => a7 (0 + i)) a8 (fun i => a9 (0 + i)) (fun i => a10 (0 + i)) (fun i => a11 (0 + i)) (fun i => a12 (0 + i)) a13 (a11 (0 + Int.toNat q1)) (a12 (0 + Int.toNat q1)) (Prod.fst (AF.val (dwoA a0 a1 a2 a3 a4 a5 (fun i => a6 (0 + i)) (fun i => a7 (0 + i)) a8 (fun i => a9 (0 + i)) (fun i => a10 (0 + i)) (fun i => a11 (0 + i)) (fun i => a12 (0 + i)) a13 q4 q5 (a10 (0 + Int.toNat q1)) (Ar.run Ar.sub IntKind.i64 (AF.val (dseA (Ar.run Ar.sub IntKind.i64 (Ar.run Ar.mn IntKind.i64 (Ar.run Ar.add IntKind.i64 q0 (a9 (0 + Int.toNat q1))) a17) (Ar.run Ar.mx IntKind.i64 q0 a16)) q2 q3 a0 a1 a2 a3 a4 a5 (fun i => a6 (0 + i)) (fun i => a7 (0 + i)) a8 (fun i => a9 (0 + i)) (fun i => a10 (0 + i)) (fun i => a11 (0 + i)) (fun i => a12 (0 + i)) a13 (a9 (0 + Int.toNat q1)) (a10 (0 + Int.toNat q1)) (a11 (0 + Int.toNat q1)) (a12 (0 + Int.toNat q1)) (Ar.run Ar.mx IntKind.i64 q0 a16) (Ar.run Ar.mn IntKind.i64 (Ar.run Ar.add IntKind.i64 q0 (a9 (0 + Int.toNat q1))) a17) q4 q5)) 1)))) (Prod.snd (AF.val (dwoA a0 a1 a2 a3 a4 a5 (fun i => a6 (0 + i)) (fun i => a7 (0 + i)) a8 (fun i => a9 (0 + i)) (fun i => a10 (0 + i)) (fun i => a11 (0 + i)) (fun i => a12 (0 + i)) a13 q4 q5 (a10 (0 + Int.toNat q1)) (Ar.run Ar.sub IntKind.i64 (AF.val (dseA (Ar.run Ar.sub IntKind.i64 (Ar.run Ar.mn IntKind.i64 (Ar.run Ar.add IntKind.i64 q0 (a9 (0 + Int.toNat q1))) a17) (Ar.run Ar.mx IntKind.i64 q0 a16)) q2 q3 a0 a1 a2 a3 a4 a5 (fun i => a6 (0 + i)) (fun i => a7 (0 + i)) a8 (fun i => a9 (0 + i)) (fun i => a10 (0 + i)) (fun i => a11 (0 + i)) (fun i => a12 (0 + i)) a13 (a9 (0 + Int.toNat q1)) (a10 (0 + Int.toNat q1)) (a11 (0 + Int.toNat q1)) (a12 (0 + Int.toNat q1)) (Ar.run Ar.mx IntKind.i64 q0 a16) (Ar.run Ar.mn IntKind.i64 (Ar.run Ar.add IntKind.i64 q0 (a9 (0 + Int.toNat q1))) a17) q4 q5)) 1)))))))) (Ar.run Ar.mn IntKind.i64 (Ar.run Ar.mn IntKind.i64 q3 (Prod.snd (AF.val (dtgA a0 a1 a2 a3 a4 a5 (fun i => a6 (0 + i)) (fun i => a7 (0 + i)) a8 (fun i => a9 (0 + i)) (fun i => a10 (0 + i)) (fun i => a11 (0 + i)) (fun i => a12 (0 + i)) a13 (a11 (0 + Int.toNat q1)) (a12 (0 + Int.toNat q1)) q4 q5)))) (Prod.snd (AF.val (dtgA a0 a1 a2 a3 a4 a5 (fun i => a6 (0 + i)) (fun i => a7 (0 + i)) a8 (fun i => a9 (0 + i)) (fun i => a10 (0 + i)) (fun i => a11 (0 + i)) (fun i => a12 (0 + i)) a13 (a11 (0 + Int.toNat q1)) (a12 (0 + Int.toNat q1)) (Prod.fst (AF.val (dwoA a0 a1 a2 a3 a4 a5 (fun i => a6 (0 + i)) (fun i => a7 (0 + i)) a8 (fun i => a9 (0 + i)) (fun i => a10 (0 + i)) (fun i => a11 (0 + i)) (fun i => a12 (0 + i)) a13 q4 q5 (a10 (0 + Int.toNat q1)) (Ar.run Ar.sub IntKind.i64 (AF.val (dseA (Ar.run Ar.sub IntKind.i64 (Ar.run Ar.mn IntKind.i64 (Ar.run Ar.add IntKind.i64 q0 (a9 (0 + Int.toNat q1))) a17) (Ar.run Ar.mx IntKind.i64 q0 a16)) q2 q3 a0 a1 a2 a3 a4 a5 (fun i => a6 (0 + i)) (fun i => a7 (0 + i)) a8 (fun i => a9 (0 + i)) (fun i => a10 (0 + i)) (fun i => a11 (0 + i)) (fun i => a12 (0 + i)) a13 (a9 (0 + Int.toNat q1)) (a10 (0 + Int.toNat q1)) (a11 (0 + Int.toNat q1)) (a12 (0 + Int.toNat q1)) (Ar.run Ar.mx IntKind.i64 q0 a16) (Ar.run Ar.mn IntKind.i64 (Ar.run Ar.add IntKind.i64 q0 (a9 (0 + Int.toNat q1))) a17) q4 q5)) 1)))) (Prod.snd (AF.val (dwoA a0 a1 a2 a3 a4 a5 (fun i => a6 (0 + i)) (fun i => a7 (0 + i)) a8 (fun i => a9 (0 + i)) (fun i => a10 (0 + i)) (fun i => a11 (0 + i)) (fun i => a12 (0 + i)) a13 q4 q5 (a10 (0 + Int.toNat q1)) (Ar.run Ar.sub IntKind.i64 (AF.val (dseA (Ar.run Ar.sub IntKind.i64 (Ar.run Ar.mn IntKind.i64 (Ar.run Ar.add IntKind.i64 q0 (a9 (0 + Int.toNat q1))) a17) (Ar.run Ar.mx IntKind.i64 q0 a16)) q2 q3 a0 a1 a2 a3 a4 a5 (fun i => a6 (0 + i)) (fun i => a7 (0 + i)) a8 (fun i => a9 (0 + i)) (fun i => a10 (0 + i)) (fun i => a11 (0 + i)) (fun i => a12 (0 + i)) a13 (a9 (0 + Int.toNat q1)) (a10 (0 + Int.toNat q1)) (a11 (0 + Int.toNat q1)) (a12 (0 + Int.toNat q1)) (Ar.run Ar.mx IntKind.i64 q0 a16) (Ar.run Ar.mn IntKind.i64 (Ar.run Ar.add IntKind.i64 q0 (a9 (0 + Int.toNat q1))) a17) q4 q5)) 1)))))))) (Prod.fst (AF.val (dwoA a0 a1 a2 a3 a4 a5 (fun i => a6 (0 + i)) (fun i => a7 (0 + i)) a8 (fun i => a9 (0 + i)) (fun i => a10 (0 + i)) (fun i => a11 (0 + i)) (fun i => a12 (0 + i)) a13 q4 q5 (a10 (0 + Int.toNat q1)) (AF.val (dseA (Ar.run Ar.sub IntKind.i64 (Ar.run Ar.mn IntKind.i64 (Ar.run Ar.add IntKind.i64 q0 (a9 (0 + Int.toNat q1))) a17) (Ar.run Ar.mx IntKind.i64 q0 a16)) q2 q3 a0 a1 a2 a3 a4 a5 (fun i => a6 (0 + i)) (fun i => a7 (0 + i)) a8 (fun i => a9 (0 + i)) (fun i => a10 (0 + i)) (fun i => a11 (0 + i)) (fun i => a12 (0 + i)) a13 (a9 (0 + Int.toNat q1)) (a10 (0 + Int.toNat q1)) (a11 (0 + Int.toNat q1)) (a12 (0 + Int.toNat q1)) (Ar.run Ar.mx IntKind.i64 q0 a16) (Ar.run Ar.mn IntKind.i64 (Ar.run Ar.add IntKind.i64 q0 (a9 (0 + Int.toNat q1))) a17) q4 q5))))) (Prod.snd (AF.val (dwoA a0 a1 a2 a3 a4 a5 (fun i => a6 (0 + i)) (fun i => a7 (0 + i)) a8 (fun i => a9 (0 + i)) (fun i => a10 (0 + i)) (fun i => a11 (0 + i)) (fun i => a12 (0 + i)) a13 q4 q5 (a10 (0 + Int.toNat q1)) (AF.val (dseA (Ar.run Ar.sub IntKind.i64 (Ar.run Ar.mn IntKind.i64 (Ar.run Ar.add IntKind.i64 q0 (a9 (0 + Int.toNat q1))) a17) (Ar.run Ar.mx IntKind.i64 q0 a16)) q2 q3 a0 a1 a2 a3 a4 a5 (fun i => a6 (0 + i)) (fun i => a7 (0 + i)) a8 (fun i => a9 (0 + i)) (fun i => a10 (0 + i)) (fun i => a11 (0 + i)) (fun i => a12 (0 + i)) a13 (a9 (0 + Int.toNat q1)) (a10 (0 + Int.toNat q1)) (a11 (0 + Int.toNat q1)) (a12 (0 + Int.toNat q1)) (Ar.run Ar.mx IntKind.i64 q0 a16) (Ar.run Ar.mn IntKind.i64 (Ar.run Ar.add IntKind.i64 q0 (a9 (0 + Int.toNat q1))) a17) q4 q5)))))) [])))))))))))))))))))))))
   (.ask (Cm.run Cm.lss (AF.val (dseA (Ar.run Ar.sub IntKind.i64 (Ar.run Ar.mn IntKind.i64 (Ar.run Ar.add IntKind.i64 q0 (a9 (0 + Int.toNat q1))) a17) (Ar.run Ar.mx IntKind.i64 q0 a16)) q2 q3 a0 a1 a2 a3 a4 a5 (fun i => a6 (0 + i)) (fun i => a7 (0 + i)) a8 (fun i => a9 (0 + i)) (fun i => a10 (0 + i)) (fun i => a11 (0 + i)) (fun i => a12 (0 + i)) a13 (a9 (0 + Int.toNat q1)) (a10 (0 + Int.toNat q1)) (a11 (0 + Int.toNat q1)) (a12 (0 + Int.toNat q1)) (Ar.run Ar.mx IntKind.i64 q0 a16) (Ar.run Ar.mn IntKind.i64 (Ar.run Ar.add IntKind.i64 q0 (a9 (0 + Int.toNat q1))) a17) q4 q5)) (Ar.run Ar.sub IntKind.i64 (Ar.run Ar.mn IntKind.i64 (Ar.run Ar.add IntKind.i64 q0 (a9 (0 + Int.toNat q1))) a17) (Ar.run Ar.mx IntKind.i64 q0 a16)))
   (.leaf (.done (.r1 q2 q3 (Ar.run Ar.add IntKind.i64 (Ar.run Ar.mx IntKind.i64 q0 a16) (AF.val (dseA (Ar.run Ar.sub IntKind.i64 (Ar.run Ar.mn IntKind.i64 (Ar.run Ar.add IntKind.i64 q0 (a9 (0 + Int.toNat q1))) a17) (Ar.run Ar.mx IntKind.i64 q0 a16)) q2 q3 a0 a1 a2 a3 a4 a5 (fun i => a6 (0 + i)) (fun i => a7 (0 + i)) a8 (fun i => a9 (0 + i)) (fun i => a10 (0 + i)) (fun i => a11 (0 + i)) (fun i => a12 (0 + i)) a13 (a9 (0 + Int.toNat q1)) (a10 (0 + Int.toNat q1)) (a11 (0 + Int.toNat q1)) (a12 (0 + Int.toNat q1)) (Ar.run Ar.mx IntKind.i64 q0 a16) (Ar.run Ar.mn IntKind.i64 (Ar.run Ar.add IntKind.i64 q0 (a9 (0 + Int.toNat q1))) a17) q4 q5))) q4 q5) []))
   (.must (decide (0 + a5 ≤ a5))
   (.must (ShapeOk [some IntKind.i64, some IntKind.i64] (tabOf a5 fun i => [CV.int IntKind.i64 (IE.x (a6 (0 + i))), CV.int IntKind.i64 (IE.x (a7 (0 + i)))]) fun i => [CV.int IntKind.i64 (IE.x (a6 (0 + i))), CV.int IntKind.i64 (IE.x (a7 (0 + i)))])
   (.must (decide (0 + a8 ≤ a8))
   (.must (ShapeOk [some IntKind.i64, some IntKind.i64, some IntKind.i64, some IntKind.i64] (tabOf a8 fun i => [CV.int IntKind.i64 (IE.x (a9 (0 + i))), CV.int IntKind.i64 (IE.x (a10 (0 + i))), CV.int IntKind.i64 (IE.x (a11 (0 + i))), CV.int IntKind.i64 (IE.x (a12 (0 + i)))]) fun i => [CV.int IntKind.i64 (IE.x (a9 (0 + i))), CV.int IntKind.i64 (IE.x (a10 (0 + i))), CV.int IntKind.i64 (IE.x (a11 (0 + i))), CV.int IntKind.i64 (IE.x (a12 (0 + i)))])
   (.must (AF.fin (dwoA a0 a1 a2 a3 a4 a5 (fun i => a6 (0 + i)) (fun i => a7 (0 + i)) a8 (fun i => a9 (0 + i)) (fun i => a10 (0 + i)) (fun i => a11 (0 + i)) (fun i => a12 (0 + i)) a13 q4 q5 (a10 (0 + Int.toNat q1)) (AF.val (dseA (Ar.run Ar.sub IntKind.i64 (Ar.run Ar.mn IntKind.i64 (Ar.run Ar.add IntKind.i64 q0 (a9 (0 + Int.toNat q1))) a17) (Ar.run Ar.mx IntKind.i64 q0 a16)) q2 q3 a0 a1 a2 a3 a4 a5 (fun i => a6 (0 + i)) (fun i => a7 (0 + i)) a8 (fun i => a9 (0 + i)) (fun i => a10 (0 + i)) (fun i => a11 (0 + i)) (fun i => a12 (0 + i)) a13 (a9 (0 + Int.toNat q1)) (a10 (0 + Int.toNat q1)) (a11 (0 + Int.toNat q1)) (a12 (0 + Int.toNat q1)) (Ar.run Ar.mx IntKind.i64 q0 a16) (Ar.run Ar.mn IntKind.i64 (Ar.run Ar.add IntKind.i64 q0 (a9 (0 + Int.toNat q1))) a17) q4 q5))))
   (.leaf (.next (.n0 (Ar.run Ar.add IntKind.i64 q0 (a9 (0 + Int.toNat q1))) (Ar.run Ar.add IntKind.i64 q1 1) q2 q3 (Prod.fst (AF.val (dwoA a0 a1 a2 a3 a4 a5 (fun i => a6 (0 + i)) (fun i => a7 (0 + i)) a8 (fun i => a9 (0 + i)) (fun i => a10 (0 + i)) (fun i => a11 (0 + i)) (fun i => a12 (0 + i)) a13 q4 q5 (a10 (0 + Int.toNat q1)) (AF.val (dseA (Ar.run Ar.sub IntKind.i64 (Ar.run Ar.mn IntKind.i64 (Ar.run Ar.add IntKind.i64 q0 (a9 (0 + Int.toNat q1))) a17) (Ar.run Ar.mx IntKind.i64 q0 a16)) q2 q3 a0 a1 a2 a3 a4 a5 (fun i => a6 (0 + i)) (fun i => a7 (0 + i)) a8 (fun i => a9 (0 + i)) (fun i => a10 (0 + i)) (fun i => a11 (0 + i)) (fun i => a12 (0 + i)) a13 (a9 (0 + Int.toNat q1)) (a10 (0 + Int.toNat q1)) (a11 (0 + Int.toNat q1)) (a12 (0 + Int.toNat q1)) (Ar.run Ar.mx IntKind.i64 q0 a16) (Ar.run Ar.mn IntKind.i64 (Ar.run Ar.add IntKind.i64 q0 (a9 (0 + Int.toNat q1))) a17) q4 q5))))) (Prod.snd (AF.val (dwoA a0 a1 a2 a3 a4 a5 (fun i => a6 (0 + i)) (fun i => a7 (0 + i)) a8 (fun i => a9 (0 + i)) (fun i => a10 (0 + i)) (fun i => a11 (0 + i)) (fun i => a12 (0 + i)) a13 q4 q5 (a10 (0 + Int.toNat q1)) (AF.val (dseA (Ar.run Ar.sub IntKind.i64 (Ar.run Ar.mn IntKind.i64 (Ar.run Ar.add IntKind.i64 q0 (a9 (0 + Int.toNat q1))) a17) (Ar.run Ar.mx IntKind.i64 q0 a16)) q2 q3 a0 a1 a2 a3 a4 a5 (fun i => a6 (0 + i)) (fun i => a7 (0 + i)) a8 (fun i => a9 (0 + i)) (fun i => a10 (0 + i)) (fun i => a11 (0 + i)) (fun i => a12 (0 + i)) a13 (a9 (0 + Int.toNat q1)) (a10 (0 + Int.toNat q1)) (a11 (0 + Int.toNat q1)) (a12 (0 + Int.toNat q1)) (Ar.run Ar.mx IntKind.i64 q0 a16) (Ar.run Ar.mn IntKind.i64 (Ar.run Ar.add IntKind.i64 q0 (a9 (0 + Int.toNat q1))) a17) q4 q5)))))) []))))))))))))))
   (.leaf (.next (.n0 (Ar.run Ar.add IntKind.i64 q0 (a9 (0 + Int.toNat q1))) (Ar.run Ar.add IntKind.i64 q1 1) q2 q3 q4 q5) []))))))
   (.leaf (.done (.r0 q2 q3 q4 q5) []))

noncomputable def drcs0A (a0 : Bool) (a1 : Int) (a2 : Int) (a3 : Int) (a4 : Int) (a5 : Nat) (a6 : Nat → Int) (a7 : Nat → Int) (a8 : Nat) (a9 : Nat → Int) (a10 : Nat → Int) (a11 : Nat → Int) (a12 : Nat → Int) (a13 : Int) (a14 : Int) (a15 : Int) (a16 : Int) (a17 : Int) : AF drcs0N drcs0R where
  code := drcs0Code
  base := 11
  nt := 40
  m := 400
  un := []
  W := [3, 4, 5, 6, 10]
  h0 := ((10, recB (mkT [(3, .int .i64 (.x a17)), (4, .ptr (some (2, 0))), (5, .ptr (some (3, 0))), (8, .ptr (some (4, 0))), (9, .ptr (some (5, 0))), (10, .ptr (some (6, 0))), (18, .fn (.func 87) [] [.ptr (some (7, 0)), .ptr (some (8, 0)), .ptr (some (9, 0))])]) 50 (rgP (codeAt drcCode [1, 1, 0, 1, 0])) (rgA (codeAt drcCode [1, 1, 0, 1, 0])) (rgB (codeAt drcCode [1, 1, 0, 1, 0]))) :: (([(2, ⟨.lit [.bool (.x a0), .int .i64 (.x a1), .int .i64 (.x a2), .int .i64 (.x a3), .int .i64 (.x a4), .sla 0 2 0 a5, .sla 1 4 0 a8, .int .i64 (.x a13)], 0, true, none⟩), (3, ⟨.lit [.int .i64 (.x a14), .int .i64 (.x a15)], 0, true, none⟩), (4, ⟨.lit [.int .i64 (.x 0), .int .i64 (.x 0)], 0, true, none⟩), (5, ⟨.lit [.int .i64 (.x 0)], 0, true, none⟩), (6, ⟨.lit [.int .i64 (.x 0), .int .i64 (.x 0)], 0, true, none⟩), (7, ⟨.lit [.bool (.x a0), .int .i64 (.x a1), .int .i64 (.x a2), .int .i64 (.x a3), .int .i64 (.x a4), .sla 0 2 0 a5, .sla 1 4 0 a8, .int .i64 (.x a13)], 0, true, none⟩), (8, ⟨.lit [.int .i64 (.x a16)], 0, true, none⟩), (9, ⟨.lit [.int .i64 (.x a17)], 0, true, none⟩)] ++ []) ++ [(0, ⟨.arg a5 2 (fun i => [.int .i64 (.x (a6 i)), .int .i64 (.x (a7 i))]) (fun _ => ⟨rfl, rfl⟩), 2, true, none⟩), (1, ⟨.arg a8 4 (fun i => [.int .i64 (.x (a9 i)), .int .i64 (.x (a10 i)), .int .i64 (.x (a11 i)), .int .i64 (.x (a12 i))]) (fun _ => ⟨rfl, rfl⟩), 4, true, none⟩)]))
  args := [.yld 10, .ptr (some (7, 0)), .ptr (some (8, 0)), .ptr (some (9, 0))]
  res := (Try.f87).results.toList
  path := fun a => match a with
   | .n0 q0 q1 q2 q3 q4 q5 => [1, 1, 0]
  pd := fun a => match a with
   | .n0 q0 q1 q2 q3 q4 q5 => ⟨[(0, .yld 10), (2, .ptr (some (8, 0))), (3, .ptr (some (9, 0))), (5, .int .i64 (.x q0)), (11, .sla 1 4 0 a8), (12, .int .i64 (.x (↑a8))), (13, .int .i64 (.x q1))], [(3, ⟨.lit [.int .i64 (.x q2), .int .i64 (.x q3)], 0, true, none⟩), (4, ⟨.lit [.int .i64 (.x 0), .int .i64 (.x 0)], 0, true, none⟩), (5, ⟨.lit [.int .i64 (.x 0)], 0, true, none⟩), (6, ⟨.lit [.int .i64 (.x q4), .int .i64 (.x q5)], 0, true, none⟩)], 11, [(10, recS (mkT [(3, .int .i64 (.x a17)), (4, .ptr (some (2, 0))), (5, .ptr (some (3, 0))), (8, .ptr (some (4, 0))), (9, .ptr (some (5, 0))), (10, .ptr (some (6, 0))), (18, .fn (.func 87) [] [.ptr (some (7, 0)), .ptr (some (8, 0)), .ptr (some (9, 0))])]) 50 (rgP (codeAt drcCode [1, 1, 0, 1, 0])) (rgA (codeAt drcCode [1, 1, 0, 1, 0])) (rgB (codeAt drcCode [1, 1, 0, 1, 0])) (.ready) (.none))]⟩
  D0 := drcs0D0 a0 a1 a2 a3 a4 a5 a6 a7 a8 a9 a10 a11 a12 a13 a14 a15 a16 a17
  D := drcs0D a0 a1 a2 a3 a4 a5 a6 a7 a8 a9 a10 a11 a12 a13 a14 a15 a16 a17
  rc := (fun v => match v with
 | .r0 q0 q1 q2 q3 => .tup []
 | .r1 q0 q1 q2 q3 q4 => .tup [])
  rh := (fun v => match v with
 | .r0 q0 q1 q2 q3 => [(3, ⟨.lit [.int .i64 (.x q0), .int .i64 (.x q1)], 0, true, none⟩), (4, ⟨.lit [.int .i64 (.x 0), .int .i64 (.x 0)], 0, true, none⟩), (5, ⟨.lit [.int .i64 (.x 0)], 0, true, none⟩), (6, ⟨.lit [.int .i64 (.x q2), .int .i64 (.x q3)], 0, true, none⟩)]
 | .r1 q0 q1 q2 q3 q4 => [(3, ⟨.lit [.int .i64 (.x q0), .int .i64 (.x q1)], 0, true, none⟩), (4, ⟨.lit [.int .i64 (.x q0), .int .i64 (.x q1)], 0, true, none⟩), (5, ⟨.lit [.int .i64 (.x q2)], 0, true, none⟩), (6, ⟨.lit [.int .i64 (.x q3), .int .i64 (.x q4)], 0, true, none⟩)])
  rn := (fun v => match v with
 | .r0 q0 q1 q2 q3 => 11
 | .r1 q0 q1 q2 q3 q4 => 11)
  rx := (fun v => match v with
 | .r0 q0 q1 q2 q3 => [(10, recS (mkT [(3, .int .i64 (.x a17)), (4, .ptr (some (2, 0))), (5, .ptr (some (3, 0))), (8, .ptr (some (4, 0))), (9, .ptr (some (5, 0))), (10, .ptr (some (6, 0))), (18, .fn (.func 87) [] [.ptr (some (7, 0)), .ptr (some (8, 0)), .ptr (some (9, 0))])]) 50 (rgP (codeAt drcCode [1, 1, 0, 1, 0])) (rgA (codeAt drcCode [1, 1, 0, 1, 0])) (rgB (codeAt drcCode [1, 1, 0, 1, 0])) (.ready) (.none))]
 | .r1 q0 q1 q2 q3 q4 => [(10, recS (mkT [(3, .int .i64 (.x a17)), (4, .ptr (some (2, 0))), (5, .ptr (some (3, 0))), (8, .ptr (some (4, 0))), (9, .ptr (some (5, 0))), (10, .ptr (some (6, 0))), (18, .fn (.func 87) [] [.ptr (some (7, 0)), .ptr (some (8, 0)), .ptr (some (9, 0))])]) 50 (rgP (codeAt drcCode [1, 1, 0, 1, 0])) (rgA (codeAt drcCode [1, 1, 0, 1, 0])) (rgB (codeAt drcCode [1, 1, 0, 1, 0])) (.done) ((.some .ret)))])
  rgo := (fun _ => none)


theorem drcs0start (a0 : Bool) (a1 : Int) (a2 : Int) (a3 : Int) (a4 : Int) (a5 : Nat) (a6 : Nat → Int) (a7 : Nat → Int) (a8 : Nat) (a9 : Nat → Int) (a10 : Nat → Int) (a11 : Nat → Int) (a12 : Nat → Int) (a13 : Int) (a14 : Int) (a15 : Int) (a16 : Int) (a17 : Int) : AF.edgeOk (drcs0A a0 a1 a2 a3 a4 a5 a6 a7 a8 a9 a10 a11 a12 a13 a14 a15 a16 a17) (ctxOf Try.prog memo0) (drcs0D0 a0 a1 a2 a3 a4 a5 a6 a7 a8 a9 a10 a11 a12 a13 a14 a15 a16 a17) (AF.run0 (drcs0A a0 a1 a2 a3 a4 a5 a6 a7 a8 a9 a10 a11 a12 a13 a14 a15 a16 a17) (ctxOf Try.prog (memoS 65 dwoP dwoF dwoW dwoH 2 (memoS 89 dtgP dtgF dtgW dtgH 2 (memoF 91 dseP dseF dseW dseH 7 memo0))))) := by unfold AF.edgeOk; kernel_rfl

theorem drcs0node0 (a0 : Bool) (a1 : Int) (a2 : Int) (a3 : Int) (a4 : Int) (a5 : Nat) (a6 : Nat → Int) (a7 : Nat → Int) (a8 : Nat) (a9 : Nat → Int) (a10 : Nat → Int) (a11 : Nat → Int) (a12 : Nat → Int) (a13 : Int) (a14 : Int) (a15 : Int) (a16 : Int) (a17 : Int) (q0 : Int) (q1 : Int) (q2 : Int) (q3 : Int) (q4 : Int) (q5 : Int) : AF.edgeOk (drcs0A a0 a1 a2 a3 a4 a5 a6 a7 a8 a9 a10 a11 a12 a13 a14 a15 a16 a17) (ctxOf Try.prog memo0) (drcs0D a0 a1 a2 a3 a4 a5 a6 a7 a8 a9 a10 a11 a12 a13 a14 a15 a16 a17 (.n0 q0 q1 q2 q3 q4 q5)) (AF.runN (drcs0A a0 a1 a2 a3 a4 a5 a6 a7 a8 a9 a10 a11 a12 a13 a14 a15 a16 a17) (ctxOf Try.prog (memoS 65 dwoP dwoF dwoW dwoH 2 (memoS 89 dtgP dtgF dtgW dtgH 2 (memoF 91 dseP dseF dseW dseH 7 memo0)))) (.n0 q0 q1 q2 q3 q4 q5)) := by unfold AF.edgeOk; kernel_rfl

theorem drcs0ok (a0 : Bool) (a1 : Int) (a2 : Int) (a3 : Int) (a4 : Int) (a5 : Nat) (a6 : Nat → Int) (a7 : Nat → Int) (a8 : Nat) (a9 : Nat → Int) (a10 : Nat → Int) (a11 : Nat → Int) (a12 : Nat → Int) (a13 : Int) (a14 : Int) (a15 : Int) (a16 : Int) (a17 : Int) : (drcs0A a0 a1 a2 a3 a4 a5 a6 a7 a8 a9 a10 a11 a12 a13 a14 a15 a16 a17).Ok Try.prog (ctxOf Try.prog (memoS 65 dwoP dwoF dwoW dwoH 2 (memoS 89 dtgP dtgF dtgW dtgH 2 (memoF 91 dseP dseF dseW dseH 7 memo0)))) where
  regs := by kernel_rfl
  h0 := by kernel_rfl
  start := drcs0start a0 a1 a2 a3 a4 a5 a6 a7 a8 a9 a10 a11 a12 a13 a14 a15 a16 a17
  node := fun a _ => match a with
   | .n0 q0 q1 q2 q3 q4 q5 => drcs0node0 a0 a1 a2 a3 a4 a5 a6 a7 a8 a9 a10 a11 a12 a13 a14 a15 a16 a17 q0 q1 q2 q3 q4 q5
  pd := fun a => match a with
   | .n0 q0 q1 q2 q3 q4 q5 => ⟨(fa_cons rfl (fa_cons rfl (fa_cons rfl (fa_cons rfl (fa_cons rfl (fa_cons rfl (fa_cons rfl fa_nil))))))), (fa_cons ⟨.inr (memW rfl), rfl, rfl⟩ (fa_cons ⟨.inr (memW rfl), rfl, rfl⟩ (fa_cons ⟨.inr (memW rfl), rfl, rfl⟩ (fa_cons ⟨.inr (memW rfl), rfl, rfl⟩ fa_nil)))), (fa_cons ⟨memW rfl, RecOk.of rfl⟩ fa_nil), rfl⟩
  le := fun a => match a with
   | .n0 q0 q1 q2 q3 q4 q5 => Nat.le_of_ble_eq_true rfl
  rd := fun v => match v with
   | .r0 q0 q1 q2 q3 => ⟨⟨fa_nil, (fa_cons ⟨.inr (memW rfl), rfl, rfl⟩ (fa_cons ⟨.inr (memW rfl), rfl, rfl⟩ (fa_cons ⟨.inr (memW rfl), rfl, rfl⟩ (fa_cons ⟨.inr (memW rfl), rfl, rfl⟩ fa_nil)))), (fa_cons ⟨memW rfl, RecOk.of rfl⟩ fa_nil), rfl⟩, rfl⟩
   | .r1 q0 q1 q2 q3 q4 => ⟨⟨fa_nil, (fa_cons ⟨.inr (memW rfl), rfl, rfl⟩ (fa_cons ⟨.inr (memW rfl), rfl, rfl⟩ (fa_cons ⟨.inr (memW rfl), rfl, rfl⟩ (fa_cons ⟨.inr (memW rfl), rfl, rfl⟩ fa_nil)))), (fa_cons ⟨memW rfl, RecOk.of rfl⟩ fa_nil), rfl⟩, rfl⟩
  wb := rfl


theorem drcs0hR {ρ : Env} (a0 : Bool) (a1 : Int) (a2 : Int) (a3 : Int) (a4 : Int) (a5 : Nat) (a6 : Nat → Int) (a7 : Nat → Int) (a8 : Nat) (a9 : Nat → Int) (a10 : Nat → Int) (a11 : Nat → Int) (a12 : Nat → Int) (a13 : Int) (a14 : Int) (a15 : Int) (a16 : Int) (a17 : Int) (hM : MemoOk Try.prog (ctxOf Try.prog (memoS 65 dwoP dwoF dwoW dwoH 2 (memoS 89 dtgP dtgF dtgW dtgH 2 (memoF 91 dseP dseF dseW dseH 7 memo0)))) ρ) : ∀ X a q n D, FxOk ρ X → X.base = (drcs0A a0 a1 a2 a3 a4 a5 a6 a7 a8 a9 a10 a11 a12 a13 a14 a15 a16 a17).base → X.nt = (drcs0A a0 a1 a2 a3 a4 a5 a6 a7 a8 a9 a10 a11 a12 a13 a14 a15 a16 a17).nt → X.W = (drcs0A a0 a1 a2 a3 a4 a5 a6 a7 a8 a9 a10 a11 a12 a13 a14 a15 a16 a17).W → (drcs0A a0 a1 a2 a3 a4 a5 a6 a7 a8 a9 a10 a11 a12 a13 a14 a15 a16 a17).rgo a = some q → q n = some D → (drcs0A a0 a1 a2 a3 a4 a5 a6 a7 a8 a9 a10 a11 a12 a13 a14 a15 a16 a17).RangeOk Try.prog ρ X a D := AF.noRange rfl

inductive drcN where
  | n0

abbrev drcR := Int × Int × Int

noncomputable def drcD0 (a0 : Bool) (a1 : Int) (a2 : Int) (a3 : Int) (a4 : Int) (a5 : Nat) (a6 : Nat → Int) (a7 : Nat → Int) (a8 : Nat) (a9 : Nat → Int) (a10 : Nat → Int) (a11 : Nat → Int) (a12 : Nat → Int) (a13 : Int) (a14 : Int) (a15 : Int) (a16 : Int) (a17 : Int) : DD (Lf drcN drcR) :=
 .leaf (.next (.n0) [2, 3, 4, 5, 6, 7, 8, 9])

noncomputable def drcD (a0 : Bool) (a1 : Int) (a2 : Int) (a3 : Int) (a4 : Int) (a5 : Nat) (a6 : Nat → Int) (a7 : Nat → Int) (a8 : Nat) (a9 : Nat → Int) (a10 : Nat → Int) (a11 : Nat → Int) (a12 : Nat → Int) (a13 : Int) (a14 : Int) (a15 : Int) (a16 : Int) (a17 : Int) : drcN → DD (Lf drcN drcR)
 | .n0 =>
 .dead

noncomputable def drcRg0 (a0 : Bool) (a1 : Int) (a2 : Int) (a3 : Int) (a4 : Int) (a5 : Nat) (a6 : Nat → Int) (a7 : Nat → Int) (a8 : Nat) (a9 : Nat → Int) (a10 : Nat → Int) (a11 : Nat → Int) (a12 : Nat → Int) (a13 : Int) (a14 : Int) (a15 : Int) (a16 : Int) (a17 : Int) : drcs0R → DD (Lf drcN drcR)
 | .r0 q0 q1 q2 q3 =>
 .leaf (.done (q0, q1, a17) [])
 | .r1 q0 q1 q2 q3 q4 =>
 .leaf (.done (q0, q1, q2) [])

noncomputable def drcA (a0 : Bool) (a1 : Int) (a2 : Int) (a3 : Int) (a4 : Int) (a5 : Nat) (a6 : Nat → Int) (a7 : Nat → Int) (a8 : Nat) (a9 : Nat → Int) (a10 : Nat → Int) (a11 : Nat → Int) (a12 : Nat → Int) (a13 : Int) (a14 : Int) (a15 : Int) (a16 : Int) (a17 : Int) : AF drcN drcR where
  code := drcCode
  base := 2
  nt := 50
  m := 400
  un := [1000003]
  W := []
  h0 := [(0, ⟨.arg a5 2 (fun i => [.int .i64 (.x (a6 i)), .int .i64 (.x (a7 i))]) (fun _ => ⟨rfl, rfl⟩), 2, true, none⟩), (1, ⟨.arg a8 4 (fun i => [.int .i64 (.x (a9 i)), .int .i64 (.x (a10 i)), .int .i64 (.x (a11 i)), .int .i64 (.x (a12 i))]) (fun _ => ⟨rfl, rfl⟩), 4, true, none⟩)]
  args := [.agg [.bool (.x a0), .int .i64 (.x a1), .int .i64 (.x a2), .int .i64 (.x a3), .int .i64 (.x a4), .sla 0 2 0 a5, .sla 1 4 0 a8, .int .i64 (.x a13)], .agg [.int .i64 (.x a14), .int .i64 (.x a15)], .int .i64 (.x a16), .int .i64 (.x a17)]
  res := (Try.f67).results.toList
  path := fun a => match a with
   | .n0 => [1, 1, 0, 1, 0]
  pd := fun a => match a with
   | .n0 => ⟨[(3, .int .i64 (.x a17)), (4, .ptr (some (2, 0))), (5, .ptr (some (3, 0))), (8, .ptr (some (4, 0))), (9, .ptr (some (5, 0))), (10, .ptr (some (6, 0))), (18, .fn (.func 87) [] [.ptr (some (7, 0)), .ptr (some (8, 0)), .ptr (some (9, 0))])], [(2, ⟨.lit [.bool (.x a0), .int .i64 (.x a1), .int .i64 (.x a2), .int .i64 (.x a3), .int .i64 (.x a4), .sla 0 2 0 a5, .sla 1 4 0 a8, .int .i64 (.x a13)], 0, true, none⟩), (3, ⟨.lit [.int .i64 (.x a14), .int .i64 (.x a15)], 0, true, none⟩), (4, ⟨.lit [.int .i64 (.x 0), .int .i64 (.x 0)], 0, true, none⟩), (5, ⟨.lit [.int .i64 (.x 0)], 0, true, none⟩), (6, ⟨.lit [.int .i64 (.x 0), .int .i64 (.x 0)], 0, true, none⟩), (7, ⟨.lit [.bool (.x a0), .int .i64 (.x a1), .int .i64 (.x a2), .int .i64 (.x a3), .int .i64 (.x a4), .sla 0 2 0 a5, .sla 1 4 0 a8, .int .i64 (.x a13)], 0, true, none⟩), (8, ⟨.lit [.int .i64 (.x a16)], 0, true, none⟩), (9, ⟨.lit [.int .i64 (.x a17)], 0, true, none⟩)], 10, []⟩
  D0 := drcD0 a0 a1 a2 a3 a4 a5 a6 a7 a8 a9 a10 a11 a12 a13 a14 a15 a16 a17
  D := drcD a0 a1 a2 a3 a4 a5 a6 a7 a8 a9 a10 a11 a12 a13 a14 a15 a16 a17
  rc := (fun v => .tup [.agg [.int .i64 (.x v.1), .int .i64 (.x v.2.1)], .int .i64 (.x v.2.2)])
  rh := (fun v => [])
  rn := (fun v => 2)
  rx := (fun v => [])
  rgo := (fun a => match a with
   | .n0 => some (fun n => (AF.run (drcs0A a0 a1 a2 a3 a4 a5 a6 a7 a8 a9 a10 a11 a12 a13 a14 a15 a16 a17) n).map (drcRg0 a0 a1 a2 a3 a4 a5 a6 a7 a8 a9 a10 a11 a12 a13 a14 a15 a16 a17)))


theorem drcstart (a0 : Bool) (a1 : Int) (a2 : Int) (a3 : Int) (a4 : Int) (a5 : Nat) (a6 : Nat → Int) (a7 : Nat → Int) (a8 : Nat) (a9 : Nat → Int) (a10 : Nat → Int) (a11 : Nat → Int) (a12 : Nat → Int) (a13 : Int) (a14 : Int) (a15 : Int) (a16 : Int) (a17 : Int) : AF.edgeOk (drcA a0 a1 a2 a3 a4 a5 a6 a7 a8 a9 a10 a11 a12 a13 a14 a15 a16 a17) (ctxOf Try.prog memo0) (drcD0 a0 a1 a2 a3 a4 a5 a6 a7 a8 a9 a10 a11 a12 a13 a14 a15 a16 a17) (AF.run0 (drcA a0 a1 a2 a3 a4 a5 a6 a7 a8 a9 a10 a11 a12 a13 a14 a15 a16 a17) (ctxOf Try.prog (memoS 65 dwoP dwoF dwoW dwoH 2 (memoS 89 dtgP dtgF dtgW dtgH 2 (memoF 91 dseP dseF dseW dseH 7 memo0))))) := by unfold AF.edgeOk; kernel_rfl

theorem drcok (a0 : Bool) (a1 : Int) (a2 : Int) (a3 : Int) (a4 : Int) (a5 : Nat) (a6 : Nat → Int) (a7 : Nat → Int) (a8 : Nat) (a9 : Nat → Int) (a10 : Nat → Int) (a11 : Nat → Int) (a12 : Nat → Int) (a13 : Int) (a14 : Int) (a15 : Int) (a16 : Int) (a17 : Int) : (drcA a0 a1 a2 a3 a4 a5 a6 a7 a8 a9 a10 a11 a12 a13 a14 a15 a16 a17).Ok Try.prog (ctxOf Try.prog (memoS 65 dwoP dwoF dwoW dwoH 2 (memoS 89 dtgP dtgF dtgW dtgH 2 (memoF 91 dseP dseF dseW dseH 7 memo0)))) where
  regs := by kernel_rfl
  h0 := by kernel_rfl
  start := drcstart a0 a1 a2 a3 a4 a5 a6 a7 a8 a9 a10 a11 a12 a13 a14 a15 a16 a17
  node := fun a h => match a, h with
   | .n0, h => someNe h
  pd := fun a => match a with
   | .n0 => ⟨(fa_cons rfl (fa_cons rfl (fa_cons rfl (fa_cons rfl (fa_cons rfl (fa_cons rfl (fa_cons rfl fa_nil))))))), (fa_cons ⟨.inl (Nat.le_of_ble_eq_true rfl), rfl, rfl⟩ (fa_cons ⟨.inl (Nat.le_of_ble_eq_true rfl), rfl, rfl⟩ (fa_cons ⟨.inl (Nat.le_of_ble_eq_true rfl), rfl, rfl⟩ (fa_cons ⟨.inl (Nat.le_of_ble_eq_true rfl), rfl, rfl⟩ (fa_cons ⟨.inl (Nat.le_of_ble_eq_true rfl), rfl, rfl⟩ (fa_cons ⟨.inl (Nat.le_of_ble_eq_true rfl), rfl, rfl⟩ (fa_cons ⟨.inl (Nat.le_of_ble_eq_true rfl), rfl, rfl⟩ (fa_cons ⟨.inl (Nat.le_of_ble_eq_true rfl), rfl, rfl⟩ fa_nil)))))))), fa_nil, rfl⟩
  le := fun a => match a with
   | .n0 => Nat.le_of_ble_eq_true rfl
  rd := fun v => ⟨⟨fa_nil, fa_nil, fa_nil, rfl⟩, rfl⟩
  wb := rfl


theorem drcrg0_0 (a0 : Bool) (a1 : Int) (a2 : Int) (a3 : Int) (a4 : Int) (a5 : Nat) (a6 : Nat → Int) (a7 : Nat → Int) (a8 : Nat) (a9 : Nat → Int) (a10 : Nat → Int) (a11 : Nat → Int) (a12 : Nat → Int) (a13 : Int) (a14 : Int) (a15 : Int) (a16 : Int) (a17 : Int) (q0 : Int) (q1 : Int) (q2 : Int) (q3 : Int) : AF.edgeOk (drcA a0 a1 a2 a3 a4 a5 a6 a7 a8 a9 a10 a11 a12 a13 a14 a15 a16 a17) (ctxOf Try.prog memo0) (drcRg0 a0 a1 a2 a3 a4 a5 a6 a7 a8 a9 a10 a11 a12 a13 a14 a15 a16 a17 (.r0 q0 q1 q2 q3)) (AF.runR (drcA a0 a1 a2 a3 a4 a5 a6 a7 a8 a9 a10 a11 a12 a13 a14 a15 a16 a17) (ctxOf Try.prog (memoS 65 dwoP dwoF dwoW dwoH 2 (memoS 89 dtgP dtgF dtgW dtgH 2 (memoF 91 dseP dseF dseW dseH 7 memo0)))) (.n0) (putH (drcs0A a0 a1 a2 a3 a4 a5 a6 a7 a8 a9 a10 a11 a12 a13 a14 a15 a16 a17).H0 ((drcs0A a0 a1 a2 a3 a4 a5 a6 a7 a8 a9 a10 a11 a12 a13 a14 a15 a16 a17).rh (.r0 q0 q1 q2 q3) ++ (drcs0A a0 a1 a2 a3 a4 a5 a6 a7 a8 a9 a10 a11 a12 a13 a14 a15 a16 a17).rx (.r0 q0 q1 q2 q3))) ((drcs0A a0 a1 a2 a3 a4 a5 a6 a7 a8 a9 a10 a11 a12 a13 a14 a15 a16 a17).rn (.r0 q0 q1 q2 q3)) ⟨mkT [(3, .int .i64 (.x a17)), (4, .ptr (some (2, 0))), (5, .ptr (some (3, 0))), (8, .ptr (some (4, 0))), (9, .ptr (some (5, 0))), (10, .ptr (some (6, 0))), (18, .fn (.func 87) [] [.ptr (some (7, 0)), .ptr (some (8, 0)), .ptr (some (9, 0))])], 50, rgP (codeAt drcCode [1, 1, 0, 1, 0]), rgA (codeAt drcCode [1, 1, 0, 1, 0]), rgB (codeAt drcCode [1, 1, 0, 1, 0]), .ready, .none⟩ .normal) := by unfold AF.edgeOk; kernel_rfl

theorem drcrg0_1 (a0 : Bool) (a1 : Int) (a2 : Int) (a3 : Int) (a4 : Int) (a5 : Nat) (a6 : Nat → Int) (a7 : Nat → Int) (a8 : Nat) (a9 : Nat → Int) (a10 : Nat → Int) (a11 : Nat → Int) (a12 : Nat → Int) (a13 : Int) (a14 : Int) (a15 : Int) (a16 : Int) (a17 : Int) (q0 : Int) (q1 : Int) (q2 : Int) (q3 : Int) (q4 : Int) : AF.edgeOk (drcA a0 a1 a2 a3 a4 a5 a6 a7 a8 a9 a10 a11 a12 a13 a14 a15 a16 a17) (ctxOf Try.prog memo0) (drcRg0 a0 a1 a2 a3 a4 a5 a6 a7 a8 a9 a10 a11 a12 a13 a14 a15 a16 a17 (.r1 q0 q1 q2 q3 q4)) (AF.runR (drcA a0 a1 a2 a3 a4 a5 a6 a7 a8 a9 a10 a11 a12 a13 a14 a15 a16 a17) (ctxOf Try.prog (memoS 65 dwoP dwoF dwoW dwoH 2 (memoS 89 dtgP dtgF dtgW dtgH 2 (memoF 91 dseP dseF dseW dseH 7 memo0)))) (.n0) (putH (drcs0A a0 a1 a2 a3 a4 a5 a6 a7 a8 a9 a10 a11 a12 a13 a14 a15 a16 a17).H0 ((drcs0A a0 a1 a2 a3 a4 a5 a6 a7 a8 a9 a10 a11 a12 a13 a14 a15 a16 a17).rh (.r1 q0 q1 q2 q3 q4) ++ (drcs0A a0 a1 a2 a3 a4 a5 a6 a7 a8 a9 a10 a11 a12 a13 a14 a15 a16 a17).rx (.r1 q0 q1 q2 q3 q4))) ((drcs0A a0 a1 a2 a3 a4 a5 a6 a7 a8 a9 a10 a11 a12 a13 a14 a15 a16 a17).rn (.r1 q0 q1 q2 q3 q4)) ⟨mkT [(3, .int .i64 (.x a17)), (4, .ptr (some (2, 0))), (5, .ptr (some (3, 0))), (8, .ptr (some (4, 0))), (9, .ptr (some (5, 0))), (10, .ptr (some (6, 0))), (18, .fn (.func 87) [] [.ptr (some (7, 0)), .ptr (some (8, 0)), .ptr (some (9, 0))])], 50, rgP (codeAt drcCode [1, 1, 0, 1, 0]), rgA (codeAt drcCode [1, 1, 0, 1, 0]), rgB (codeAt drcCode [1, 1, 0, 1, 0]), .done, (.some .ret)⟩ .ret) := by unfold AF.edgeOk; kernel_rfl

theorem drcrg0 (a0 : Bool) (a1 : Int) (a2 : Int) (a3 : Int) (a4 : Int) (a5 : Nat) (a6 : Nat → Int) (a7 : Nat → Int) (a8 : Nat) (a9 : Nat → Int) (a10 : Nat → Int) (a11 : Nat → Int) (a12 : Nat → Int) (a13 : Int) (a14 : Int) (a15 : Int) (a16 : Int) (a17 : Int) : AF.Rg (drcA a0 a1 a2 a3 a4 a5 a6 a7 a8 a9 a10 a11 a12 a13 a14 a15 a16 a17) (drcs0A a0 a1 a2 a3 a4 a5 a6 a7 a8 a9 a10 a11 a12 a13 a14 a15 a16 a17) Try.prog (ctxOf Try.prog (memoS 65 dwoP dwoF dwoW dwoH 2 (memoS 89 dtgP dtgF dtgW dtgH 2 (memoF 91 dseP dseF dseW dseH 7 memo0)))) (ctxOf Try.prog (memoS 65 dwoP dwoF dwoW dwoH 2 (memoS 89 dtgP dtgF dtgW dtgH 2 (memoF 91 dseP dseF dseW dseH 7 memo0)))) (.n0) (rgF (codeAt drcCode [1, 1, 0, 1, 0])) (rgP (codeAt drcCode [1, 1, 0, 1, 0])) (rgA (codeAt drcCode [1, 1, 0, 1, 0])) (rgB (codeAt drcCode [1, 1, 0, 1, 0])) 87 Try.f87 [] [.ptr (some (7, 0)), .ptr (some (8, 0)), .ptr (some (9, 0))] (fun v => match v with
   | .r0 q0 q1 q2 q3 => ⟨mkT [(3, .int .i64 (.x a17)), (4, .ptr (some (2, 0))), (5, .ptr (some (3, 0))), (8, .ptr (some (4, 0))), (9, .ptr (some (5, 0))), (10, .ptr (some (6, 0))), (18, .fn (.func 87) [] [.ptr (some (7, 0)), .ptr (some (8, 0)), .ptr (some (9, 0))])], 50, rgP (codeAt drcCode [1, 1, 0, 1, 0]), rgA (codeAt drcCode [1, 1, 0, 1, 0]), rgB (codeAt drcCode [1, 1, 0, 1, 0]), .ready, .none⟩
   | .r1 q0 q1 q2 q3 q4 => ⟨mkT [(3, .int .i64 (.x a17)), (4, .ptr (some (2, 0))), (5, .ptr (some (3, 0))), (8, .ptr (some (4, 0))), (9, .ptr (some (5, 0))), (10, .ptr (some (6, 0))), (18, .fn (.func 87) [] [.ptr (some (7, 0)), .ptr (some (8, 0)), .ptr (some (9, 0))])], 50, rgP (codeAt drcCode [1, 1, 0, 1, 0]), rgA (codeAt drcCode [1, 1, 0, 1, 0]), rgB (codeAt drcCode [1, 1, 0, 1, 0]), .done, (.some .ret)⟩) (fun v => match v with
   | .r0 q0 q1 q2 q3 => .normal
   | .r1 q0 q1 q2 q3 q4 => .ret) (drcRg0 a0 a1 a2 a3 a4 a5 a6 a7 a8 a9 a10 a11 a12 a13 a14 a15 a16 a17) where
  code := by kernel_rfl
  fn := by kernel_rfl
  args := rfl
  base := rfl
  h0 := rfl
  W := rfl
  gfn := Try.func87
  body := rfl
  nt := rfl
  len := Nat.le_of_ble_eq_true rfl
  res := rfl
  ok := drcs0ok a0 a1 a2 a3 a4 a5 a6 a7 a8 a9 a10 a11 a12 a13 a14 a15 a16 a17
  le := fun v => match v with
   | .r0 q0 q1 q2 q3 => Nat.le_of_ble_eq_true rfl
   | .r1 q0 q1 q2 q3 q4 => Nat.le_of_ble_eq_true rfl
  lt := fun v => match v with
   | .r0 q0 q1 q2 q3 => rfl
   | .r1 q0 q1 q2 q3 q4 => rfl
  rcd := fun v => match v with
   | .r0 q0 q1 q2 q3 => rfl
   | .r1 q0 q1 q2 q3 q4 => rfl
  st := fun v => match v with
   | .r0 q0 q1 q2 q3 => (fun h => LoopState.noConfusion h)
   | .r1 q0 q1 q2 q3 q4 => (fun h => LoopState.noConfusion h)
  exd := fun v => match v with
   | .r0 q0 q1 q2 q3 => rfl
   | .r1 q0 q1 q2 q3 q4 => rfl
  D := fun v => match v with
   | .r0 q0 q1 q2 q3 => drcrg0_0 a0 a1 a2 a3 a4 a5 a6 a7 a8 a9 a10 a11 a12 a13 a14 a15 a16 a17 q0 q1 q2 q3
   | .r1 q0 q1 q2 q3 q4 => drcrg0_1 a0 a1 a2 a3 a4 a5 a6 a7 a8 a9 a10 a11 a12 a13 a14 a15 a16 a17 q0 q1 q2 q3 q4


theorem drchR {ρ : Env} (a0 : Bool) (a1 : Int) (a2 : Int) (a3 : Int) (a4 : Int) (a5 : Nat) (a6 : Nat → Int) (a7 : Nat → Int) (a8 : Nat) (a9 : Nat → Int) (a10 : Nat → Int) (a11 : Nat → Int) (a12 : Nat → Int) (a13 : Int) (a14 : Int) (a15 : Int) (a16 : Int) (a17 : Int) (hM : MemoOk Try.prog (ctxOf Try.prog (memoS 65 dwoP dwoF dwoW dwoH 2 (memoS 89 dtgP dtgF dtgW dtgH 2 (memoF 91 dseP dseF dseW dseH 7 memo0)))) ρ) : ∀ X a q n D, FxOk ρ X → X.base = (drcA a0 a1 a2 a3 a4 a5 a6 a7 a8 a9 a10 a11 a12 a13 a14 a15 a16 a17).base → X.nt = (drcA a0 a1 a2 a3 a4 a5 a6 a7 a8 a9 a10 a11 a12 a13 a14 a15 a16 a17).nt → X.W = (drcA a0 a1 a2 a3 a4 a5 a6 a7 a8 a9 a10 a11 a12 a13 a14 a15 a16 a17).W → (drcA a0 a1 a2 a3 a4 a5 a6 a7 a8 a9 a10 a11 a12 a13 a14 a15 a16 a17).rgo a = some q → q n = some D → (drcA a0 a1 a2 a3 a4 a5 a6 a7 a8 a9 a10 a11 a12 a13 a14 a15 a16 a17).RangeOk Try.prog ρ X a D := by
  intro X a q n D h1 h2 h3 h4 hq hD
  cases a with
  | n0 =>
    have e := Option.some.inj hq
    subst e
    exact AF.range_ok (n := n) try_ok hM hM (drcok a0 a1 a2 a3 a4 a5 a6 a7 a8 a9 a10 a11 a12 a13 a14 a15 a16 a17) (drcrg0 a0 a1 a2 a3 a4 a5 a6 a7 a8 a9 a10 a11 a12 a13 a14 a15 a16 a17) (drcs0hR a0 a1 a2 a3 a4 a5 a6 a7 a8 a9 a10 a11 a12 a13 a14 a15 a16 a17 hM) h1 h2 h3 h4 hD

theorem drcctr {ρ : Env} (a0 : Bool) (a1 : Int) (a2 : Int) (a3 : Int) (a4 : Int) (a5 : Nat) (a6 : Nat → Int) (a7 : Nat → Int) (a8 : Nat) (a9 : Nat → Int) (a10 : Nat → Int) (a11 : Nat → Int) (a12 : Nat → Int) (a13 : Int) (a14 : Int) (a15 : Int) (a16 : Int) (a17 : Int) {n : Nat} {v : drcR} (hM : MemoOk Try.prog (ctxOf Try.prog (memoS 65 dwoP dwoF dwoW dwoH 2 (memoS 89 dtgP dtgF dtgW dtgH 2 (memoF 91 dseP dseF dseW dseH 7 memo0)))) ρ) (hv : (drcA a0 a1 a2 a3 a4 a5 a6 a7 a8 a9 a10 a11 a12 a13 a14 a15 a16 a17).run n = some v) :
    Ctr Try.prog ρ 67 (drcA a0 a1 a2 a3 a4 a5 a6 a7 a8 a9 a10 a11 a12 a13 a14 a15 a16 a17).args (drcA a0 a1 a2 a3 a4 a5 a6 a7 a8 a9 a10 a11 a12 a13 a14 a15 a16 a17).H0 (drcA a0 a1 a2 a3 a4 a5 a6 a7 a8 a9 a10 a11 a12 a13 a14 a15 a16 a17).base (drcA a0 a1 a2 a3 a4 a5 a6 a7 a8 a9 a10 a11 a12 a13 a14 a15 a16 a17).W ((drcA a0 a1 a2 a3 a4 a5 a6 a7 a8 a9 a10 a11 a12 a13 a14 a15 a16 a17).rc v) (putH (drcA a0 a1 a2 a3 a4 a5 a6 a7 a8 a9 a10 a11 a12 a13 a14 a15 a16 a17).H0 ((drcA a0 a1 a2 a3 a4 a5 a6 a7 a8 a9 a10 a11 a12 a13 a14 a15 a16 a17).rh v ++ (drcA a0 a1 a2 a3 a4 a5 a6 a7 a8 a9 a10 a11 a12 a13 a14 a15 a16 a17).rx v)) ((drcA a0 a1 a2 a3 a4 a5 a6 a7 a8 a9 a10 a11 a12 a13 a14 a15 a16 a17).rn v) :=
  AF.ctr try_ok hM (drcok a0 a1 a2 a3 a4 a5 a6 a7 a8 a9 a10 a11 a12 a13 a14 a15 a16 a17) (fn := Try.f67) Try.func67 rfl rfl (Nat.le_of_ble_eq_true rfl) rfl (drchR a0 a1 a2 a3 a4 a5 a6 a7 a8 a9 a10 a11 a12 a13 a14 a15 a16 a17 hM) hv


theorem drcmem {ρ : Env} : MemoOk Try.prog (ctxOf Try.prog (memoS 65 dwoP dwoF dwoW dwoH 2 (memoS 89 dtgP dtgF dtgW dtgH 2 (memoF 91 dseP dseF dseW dseH 7 memo0)))) ρ := (memoS_ok (dwoknown dwomem) (memoS_ok (dtgknown dtgmem) (memoF_ok (dseknown dsemem) memo0_ok)))


abbrev drcP : List AQ := [.agg [.bool, .int .i64, .int .i64, .int .i64, .int .i64, .rows [some .i64, some .i64], .rows [some .i64, some .i64, some .i64, some .i64], .int .i64], .agg [.int .i64, .int .i64], .int .i64, .int .i64]

noncomputable def drcF (v : AW) : AF drcN drcR := drcA (v.b.getD 0 false) (v.i.getD 0 0) (v.i.getD 1 0) (v.i.getD 2 0) (v.i.getD 3 0) (v.t.getD 0 .none).n ((v.t.getD 0 .none).c 0) ((v.t.getD 0 .none).c 1) (v.t.getD 1 .none).n ((v.t.getD 1 .none).c 0) ((v.t.getD 1 .none).c 1) ((v.t.getD 1 .none).c 2) ((v.t.getD 1 .none).c 3) (v.i.getD 4 0) (v.i.getD 5 0) (v.i.getD 6 0) (v.i.getD 7 0) (v.i.getD 8 0)

noncomputable def drcW : drcR → CV := fun v => .tup [.agg [.int .i64 (.x v.1), .int .i64 (.x v.2.1)], .int .i64 (.x v.2.2)]
noncomputable def drcH : drcR → List (Nat × Blk) := fun v => []



instance : Inhabited drcR := ⟨(0, 0, 0)⟩
theorem drcknown {ρ : Env} (hM : MemoOk Try.prog (ctxOf Try.prog (memoS 65 dwoP dwoF dwoW dwoH 2 (memoS 89 dtgP dtgF dtgW dtgH 2 (memoF 91 dseP dseF dseW dseH 7 memo0)))) ρ) : KnownS Try.prog ρ 67 drcP drcF drcW drcH 2 where
  fn := ⟨Try.f67, Try.func67, rfl⟩
  le := Nat.le_of_ble_eq_true rfl
  full := fun r => rfl
  rg := fun r => rfl
  hg := fun r => fa_nil
  ctr := fun v n r h => drcctr (v.b.getD 0 false) (v.i.getD 0 0) (v.i.getD 1 0) (v.i.getD 2 0) (v.i.getD 3 0) (v.t.getD 0 .none).n ((v.t.getD 0 .none).c 0) ((v.t.getD 0 .none).c 1) (v.t.getD 1 .none).n ((v.t.getD 1 .none).c 0) ((v.t.getD 1 .none).c 1) ((v.t.getD 1 .none).c 2) ((v.t.getD 1 .none).c 3) (v.i.getD 4 0) (v.i.getD 5 0) (v.i.getD 6 0) (v.i.getD 7 0) (v.i.getD 8 0) hM h

end Go.Proofs.Ytlmoamafkjplbaa.Cx

/- acme/die.Looks as an automaton. Made by tools/cxauto.py. -/
namespace Go.Proofs.Ytlmoamafkjplbaa.Cx
set_option linter.unusedVariables false
set_option linter.unusedSimpArgs false
set_option maxRecDepth 100000
open Go Go.Proofs Go.RowKit

noncomputable abbrev dloCode : Code := funcCode Try.f41


abbrev dloN := Empty

abbrev dloR := Int × Int

noncomputable def dloD0 (a0 : Bool) (a1 : Int) (a2 : Int) (a3 : Int) (a4 : Int) (a5 : Nat) (a6 : Nat → Int) (a7 : Nat → Int) (a8 : Int) (a9 : Int) (a10 : Int) (a11 : Int) (a12 : Int) : DD (Lf dloN dloR) :=
 .must (decide (0 + a5 ≤ a5))
   (.must (ShapeOk [some IntKind.i64, some IntKind.i64] (tabOf a5 fun i => [CV.int IntKind.i64 (IE.x (a6 (0 + i))), CV.int IntKind.i64 (IE.x (a7 (0 + i)))]) fun i => [CV.int IntKind.i64 (IE.x (a6 (0 + i))), CV.int IntKind.i64 (IE.x (a7 (0 + i)))])
   (.must (AF.fin (dctA a0 a1 a2 a3 a4 a5 (fun i => a6 (0 + i)) fun i => a7 (0 + i)))
   (.ask (Cm.run Cm.neq (AF.val (dctA a0 a1 a2 a3 a4 a5 (fun i => a6 (0 + i)) fun i => a7 (0 + i))) 0)
   (.leaf (.done (0, AF.val (dctA a0 a1 a2 a3 a4 a5 (fun i => a6 (0 + i)) fun i => a7 (0 + i))) []))
   (.ask (Cm.run Cm.leq (-20000000000) a8)
   (.ask (Cm.run Cm.leq a8 a9)
   (.ask (Cm.run Cm.leq a9 20000000000)
   (.ask (Cm.run Cm.leq 0 a11)
   (.ask (Cm.run Cm.leq a11 a12)
   (.ask (Cm.run Cm.leq a12 10000000000)
   (.ask (Cm.run Cm.lss a10 0)
   (.leaf (.done (0, 7) []))
   (.ask (Cm.run Cm.gtr a10 (Ar.run Ar.sub IntKind.i64 ((↑a5 : Int)) 1))
   (.leaf (.done (0, 7) []))
   (.must (decide (0 + a5 ≤ a5))
   (.must (ShapeOk [some IntKind.i64, some IntKind.i64] (tabOf a5 fun i => [CV.int IntKind.i64 (IE.x (a6 (0 + i))), CV.int IntKind.i64 (IE.x (a7 (0 + i)))]) fun i => [CV.int IntKind.i64 (IE.x (a6 (0 + i))), CV.int IntKind.i64 (IE.x (a7 (0 + i)))])
   (.must (AF.fin (drcA a0 a8 a9 a3 a4 a5 (fun i => a6 (0 + i)) (fun i => a7 (0 + i)) 1 (fun i => List.getD [10000] i 0) (fun i => List.getD [a10] i 0) (fun i => List.getD [a11] i 0) (fun i => List.getD [a12] i 0) 10000 0 0 0 10000))
   (.leaf (.done (Prod.snd (Prod.snd (AF.val (drcA a0 a8 a9 a3 a4 a5 (fun i => a6 (0 + i)) (fun i => a7 (0 + i)) 1 (fun i => List.getD [10000] i 0) (fun i => List.getD [a10] i 0) (fun i => List.getD [a11] i 0) (fun i => List.getD [a12] i 0) 10000 0 0 0 10000))), 0) [])))))))
   (.leaf (.done (0, 2) [])))
   (.leaf (.done (0, 2) [])))
   (.leaf (.done (0, 2) [])))
   (.leaf (.done (0, 2) [])))
   (.leaf (.done (0, 2) [])))
   (.leaf (.done (0, 2) []))))))

noncomputable def dloD (a0 : Bool) (a1 : Int) (a2 : Int) (a3 : Int) (a4 : Int) (a5 : Nat) (a6 : Nat → Int) (a7 : Nat → Int) (a8 : Int) (a9 : Int) (a10 : Int) (a11 : Int) (a12 : Int) : dloN → DD (Lf dloN dloR) := fun a => nomatch a

noncomputable def dloA (a0 : Bool) (a1 : Int) (a2 : Int) (a3 : Int) (a4 : Int) (a5 : Nat) (a6 : Nat → Int) (a7 : Nat → Int) (a8 : Int) (a9 : Int) (a10 : Int) (a11 : Int) (a12 : Int) : AF dloN dloR where
  code := dloCode
  base := 1
  nt := 48
  m := 400
  un := []
  W := []
  h0 := [(0, ⟨.arg a5 2 (fun i => [.int .i64 (.x (a6 i)), .int .i64 (.x (a7 i))]) (fun _ => ⟨rfl, rfl⟩), 2, true, none⟩)]
  args := [.agg [.bool (.x a0), .int .i64 (.x a1), .int .i64 (.x a2), .int .i64 (.x a3), .int .i64 (.x a4), .sla 0 2 0 a5], .agg [.int .i64 (.x a8), .int .i64 (.x a9)], .int .i64 (.x a10), .agg [.int .i64 (.x a11), .int .i64 (.x a12)]]
  res := (Try.f41).results.toList
  path := fun a => nomatch a
  pd := fun a => nomatch a
  D0 := dloD0 a0 a1 a2 a3 a4 a5 a6 a7 a8 a9 a10 a11 a12
  D := dloD a0 a1 a2 a3 a4 a5 a6 a7 a8 a9 a10 a11 a12
  rc := (fun v => .tup [.int .i64 (.x v.1), .int .i64 (.x v.2)])
  rh := (fun v => [])
  rn := (fun v => 1)
  rx := (fun v => [])
  rgo := (fun _ => none)


theorem dlostart (a0 : Bool) (a1 : Int) (a2 : Int) (a3 : Int) (a4 : Int) (a5 : Nat) (a6 : Nat → Int) (a7 : Nat → Int) (a8 : Int) (a9 : Int) (a10 : Int) (a11 : Int) (a12 : Int) : AF.edgeOk (dloA a0 a1 a2 a3 a4 a5 a6 a7 a8 a9 a10 a11 a12) (ctxOf Try.prog memo0) (dloD0 a0 a1 a2 a3 a4 a5 a6 a7 a8 a9 a10 a11 a12) (AF.run0 (dloA a0 a1 a2 a3 a4 a5 a6 a7 a8 a9 a10 a11 a12) (ctxOf Try.prog (memoS 67 drcP drcF drcW drcH 2 (memoS 59 dctP dctF dctW dctH 1 memo0)))) := by unfold AF.edgeOk; kernel_rfl

theorem dlook (a0 : Bool) (a1 : Int) (a2 : Int) (a3 : Int) (a4 : Int) (a5 : Nat) (a6 : Nat → Int) (a7 : Nat → Int) (a8 : Int) (a9 : Int) (a10 : Int) (a11 : Int) (a12 : Int) : (dloA a0 a1 a2 a3 a4 a5 a6 a7 a8 a9 a10 a11 a12).Ok Try.prog (ctxOf Try.prog (memoS 67 drcP drcF drcW drcH 2 (memoS 59 dctP dctF dctW dctH 1 memo0))) where
  regs := by kernel_rfl
  h0 := by kernel_rfl
  start := dlostart a0 a1 a2 a3 a4 a5 a6 a7 a8 a9 a10 a11 a12
  node := fun a _ => nomatch a
  pd := fun a => nomatch a
  le := fun a => nomatch a
  rd := fun v => ⟨⟨fa_nil, fa_nil, fa_nil, rfl⟩, rfl⟩
  wb := rfl


theorem dlohR {ρ : Env} (a0 : Bool) (a1 : Int) (a2 : Int) (a3 : Int) (a4 : Int) (a5 : Nat) (a6 : Nat → Int) (a7 : Nat → Int) (a8 : Int) (a9 : Int) (a10 : Int) (a11 : Int) (a12 : Int) (hM : MemoOk Try.prog (ctxOf Try.prog (memoS 67 drcP drcF drcW drcH 2 (memoS 59 dctP dctF dctW dctH 1 memo0))) ρ) : ∀ X a q n D, FxOk ρ X → X.base = (dloA a0 a1 a2 a3 a4 a5 a6 a7 a8 a9 a10 a11 a12).base → X.nt = (dloA a0 a1 a2 a3 a4 a5 a6 a7 a8 a9 a10 a11 a12).nt → X.W = (dloA a0 a1 a2 a3 a4 a5 a6 a7 a8 a9 a10 a11 a12).W → (dloA a0 a1 a2 a3 a4 a5 a6 a7 a8 a9 a10 a11 a12).rgo a = some q → q n = some D → (dloA a0 a1 a2 a3 a4 a5 a6 a7 a8 a9 a10 a11 a12).RangeOk Try.prog ρ X a D := AF.noRange rfl

theorem dloctr {ρ : Env} (a0 : Bool) (a1 : Int) (a2 : Int) (a3 : Int) (a4 : Int) (a5 : Nat) (a6 : Nat → Int) (a7 : Nat → Int) (a8 : Int) (a9 : Int) (a10 : Int) (a11 : Int) (a12 : Int) {n : Nat} {v : dloR} (hM : MemoOk Try.prog (ctxOf Try.prog (memoS 67 drcP drcF drcW drcH 2 (memoS 59 dctP dctF dctW dctH 1 memo0))) ρ) (hv : (dloA a0 a1 a2 a3 a4 a5 a6 a7 a8 a9 a10 a11 a12).run n = some v) :
    Ctr Try.prog ρ 41 (dloA a0 a1 a2 a3 a4 a5 a6 a7 a8 a9 a10 a11 a12).args (dloA a0 a1 a2 a3 a4 a5 a6 a7 a8 a9 a10 a11 a12).H0 (dloA a0 a1 a2 a3 a4 a5 a6 a7 a8 a9 a10 a11 a12).base (dloA a0 a1 a2 a3 a4 a5 a6 a7 a8 a9 a10 a11 a12).W ((dloA a0 a1 a2 a3 a4 a5 a6 a7 a8 a9 a10 a11 a12).rc v) (putH (dloA a0 a1 a2 a3 a4 a5 a6 a7 a8 a9 a10 a11 a12).H0 ((dloA a0 a1 a2 a3 a4 a5 a6 a7 a8 a9 a10 a11 a12).rh v ++ (dloA a0 a1 a2 a3 a4 a5 a6 a7 a8 a9 a10 a11 a12).rx v)) ((dloA a0 a1 a2 a3 a4 a5 a6 a7 a8 a9 a10 a11 a12).rn v) :=
  AF.ctr try_ok hM (dlook a0 a1 a2 a3 a4 a5 a6 a7 a8 a9 a10 a11 a12) (fn := Try.f41) Try.func41 rfl rfl (Nat.le_of_ble_eq_true rfl) rfl (dlohR a0 a1 a2 a3 a4 a5 a6 a7 a8 a9 a10 a11 a12 hM) hv


theorem dlomem {ρ : Env} : MemoOk Try.prog (ctxOf Try.prog (memoS 67 drcP drcF drcW drcH 2 (memoS 59 dctP dctF dctW dctH 1 memo0))) ρ := (memoS_ok (drcknown drcmem) (memoS_ok (dctknown dctmem) memo0_ok))


abbrev dloP : List AQ := [.agg [.bool, .int .i64, .int .i64, .int .i64, .int .i64, .rows [some .i64, some .i64]], .agg [.int .i64, .int .i64], .int .i64, .agg [.int .i64, .int .i64]]

noncomputable def dloF (v : AW) : AF dloN dloR := dloA (v.b.getD 0 false) (v.i.getD 0 0) (v.i.getD 1 0) (v.i.getD 2 0) (v.i.getD 3 0) (v.t.getD 0 .none).n ((v.t.getD 0 .none).c 0) ((v.t.getD 0 .none).c 1) (v.i.getD 4 0) (v.i.getD 5 0) (v.i.getD 6 0) (v.i.getD 7 0) (v.i.getD 8 0)

noncomputable def dloW : dloR → CV := fun v => .tup [.int .i64 (.x v.1), .int .i64 (.x v.2)]
noncomputable def dloH : dloR → List (Nat × Blk) := fun v => []



instance : Inhabited dloR := ⟨(0, 0)⟩
theorem dloknown {ρ : Env} (hM : MemoOk Try.prog (ctxOf Try.prog (memoS 67 drcP drcF drcW drcH 2 (memoS 59 dctP dctF dctW dctH 1 memo0))) ρ) : KnownS Try.prog ρ 41 dloP dloF dloW dloH 1 where
  fn := ⟨Try.f41, Try.func41, rfl⟩
  le := Nat.le_of_ble_eq_true rfl
  full := fun r => rfl
  rg := fun r => rfl
  hg := fun r => fa_nil
  ctr := fun v n r h => dloctr (v.b.getD 0 false) (v.i.getD 0 0) (v.i.getD 1 0) (v.i.getD 2 0) (v.i.getD 3 0) (v.t.getD 0 .none).n ((v.t.getD 0 .none).c 0) ((v.t.getD 0 .none).c 1) (v.i.getD 4 0) (v.i.getD 5 0) (v.i.getD 6 0) (v.i.getD 7 0) (v.i.getD 8 0) hM h

end Go.Proofs.Ytlmoamafkjplbaa.Cx

/- acme/acmeref07.Looks as an automaton. Made by tools/cxauto.py. -/
namespace Go.Proofs.Ytlmoamafkjplbaa.Cx
set_option linter.unusedVariables false
set_option linter.unusedSimpArgs false
set_option maxRecDepth 100000
open Go Go.Proofs Go.RowKit

noncomputable abbrev rlkCode : Code := funcCode Try.f47


inductive rlkN where
  | n0 (p0 : Int) (p1 : Int) (p2 : Int)

abbrev rlkR := Int

noncomputable def rlkD0 (a0 : Bool) (a1 : Int) (a2 : Int) (a3 : Int) (a4 : Int) (a5 : Nat) (a6 : Nat → Int) (a7 : Nat → Int) (a8 : Int) (a9 : Int) (a10 : Int) (a11 : Int) (a12 : Int) : DD (Lf rlkN rlkR) :=
 .must (decide (0 ≤ a10))
   (.must (decide (a10 < (↑a5 : Int)))
   (.must (decide (0 + Int.toNat a10 < a5))
   (.leaf (.next (.n0 0 a8 a9) [1, 2, 3, 4]))))

noncomputable def rlkD (a0 : Bool) (a1 : Int) (a2 : Int) (a3 : Int) (a4 : Int) (a5 : Nat) (a6 : Nat → Int) (a7 : Nat → Int) (a8 : Int) (a9 : Int) (a10 : Int) (a11 : Int) (a12 : Int) : rlkN → DD (Lf rlkN rlkR)
 | .n0 p0 p1 p2 =>
 .ask (Cm.run Cm.lss p0 10000)
   (.ask (Cm.run Cm.geq (Ar.run Ar.add IntKind.i64 p1 a3) a11)
   (.ask (Cm.run Cm.leq (Ar.run Ar.add IntKind.i64 p2 a4) a12)
   (.ask (a0)
   (.leaf (.next (.n0 (Ar.run Ar.add IntKind.i64 p0 1) (Ar.run Ar.sub IntKind.i64 p1 (a7 (0 + Int.toNat a10))) (Ar.run Ar.sub IntKind.i64 p2 (a6 (0 + Int.toNat a10)))) [1, 2, 3, 4]))
   (.leaf (.next (.n0 (Ar.run Ar.add IntKind.i64 p0 1) (Ar.run Ar.add IntKind.i64 p1 (a6 (0 + Int.toNat a10))) (Ar.run Ar.add IntKind.i64 p2 (a7 (0 + Int.toNat a10)))) [1, 2, 3, 4])))
   (.leaf (.done p0 [])))
   (.leaf (.done p0 [])))
   (.leaf (.done p0 []))

noncomputable def rlkA (a0 : Bool) (a1 : Int) (a2 : Int) (a3 : Int) (a4 : Int) (a5 : Nat) (a6 : Nat → Int) (a7 : Nat → Int) (a8 : Int) (a9 : Int) (a10 : Int) (a11 : Int) (a12 : Int) : AF rlkN rlkR where
  code := rlkCode
  base := 1
  nt := 67
  m := 400
  un := []
  W := []
  h0 := [(0, ⟨.arg a5 2 (fun i => [.int .i64 (.x (a6 i)), .int .i64 (.x (a7 i))]) (fun _ => ⟨rfl, rfl⟩), 2, true, none⟩)]
  args := [.agg [.bool (.x a0), .int .i64 (.x a1), .int .i64 (.x a2), .int .i64 (.x a3), .int .i64 (.x a4), .sla 0 2 0 a5], .agg [.int .i64 (.x a8), .int .i64 (.x a9)], .int .i64 (.x a10), .agg [.int .i64 (.x a11), .int .i64 (.x a12)]]
  res := (Try.f47).results.toList
  path := fun a => match a with
   | .n0 p0 p1 p2 => [1, 1, 0, 0]
  pd := fun a => match a with
   | .n0 p0 p1 p2 => ⟨[(4, .ptr (some (1, 0))), (5, .ptr (some (2, 0))), (7, .ptr (some (3, 0))), (9, .int .i64 (.x p0)), (10, .ptr (some (4, 0)))], [(1, ⟨.lit [.bool (.x a0), .int .i64 (.x a1), .int .i64 (.x a2), .int .i64 (.x a3), .int .i64 (.x a4), .sla 0 2 0 a5], 0, true, none⟩), (2, ⟨.lit [.int .i64 (.x p1), .int .i64 (.x p2)], 0, true, none⟩), (3, ⟨.lit [.int .i64 (.x a11), .int .i64 (.x a12)], 0, true, none⟩), (4, ⟨.lit [.int .i64 (.x (a6 (0 + Int.toNat a10))), .int .i64 (.x (a7 (0 + Int.toNat a10)))], 0, true, none⟩)], 5, []⟩
  D0 := rlkD0 a0 a1 a2 a3 a4 a5 a6 a7 a8 a9 a10 a11 a12
  D := rlkD a0 a1 a2 a3 a4 a5 a6 a7 a8 a9 a10 a11 a12
  rc := (fun v => .int .i64 (.x v))
  rh := (fun v => [])
  rn := (fun v => 1)
  rx := (fun v => [])
  rgo := (fun _ => none)


theorem rlkstart (a0 : Bool) (a1 : Int) (a2 : Int) (a3 : Int) (a4 : Int) (a5 : Nat) (a6 : Nat → Int) (a7 : Nat → Int) (a8 : Int) (a9 : Int) (a10 : Int) (a11 : Int) (a12 : Int) : AF.edgeOk (rlkA a0 a1 a2 a3 a4 a5 a6 a7 a8 a9 a10 a11 a12) (ctxOf Try.prog memo0) (rlkD0 a0 a1 a2 a3 a4 a5 a6 a7 a8 a9 a10 a11 a12) (AF.run0 (rlkA a0 a1 a2 a3 a4 a5 a6 a7 a8 a9 a10 a11 a12) (ctxOf Try.prog memo0)) := by unfold AF.edgeOk; kernel_rfl

theorem rlknode0 (a0 : Bool) (a1 : Int) (a2 : Int) (a3 : Int) (a4 : Int) (a5 : Nat) (a6 : Nat → Int) (a7 : Nat → Int) (a8 : Int) (a9 : Int) (a10 : Int) (a11 : Int) (a12 : Int) (p0 : Int) (p1 : Int) (p2 : Int) : AF.edgeOk (rlkA a0 a1 a2 a3 a4 a5 a6 a7 a8 a9 a10 a11 a12) (ctxOf Try.prog memo0) (rlkD a0 a1 a2 a3 a4 a5 a6 a7 a8 a9 a10 a11 a12 (.n0 p0 p1 p2)) (AF.runN (rlkA a0 a1 a2 a3 a4 a5 a6 a7 a8 a9 a10 a11 a12) (ctxOf Try.prog memo0) (.n0 p0 p1 p2)) := by unfold AF.edgeOk; kernel_rfl

theorem rlkok (a0 : Bool) (a1 : Int) (a2 : Int) (a3 : Int) (a4 : Int) (a5 : Nat) (a6 : Nat → Int) (a7 : Nat → Int) (a8 : Int) (a9 : Int) (a10 : Int) (a11 : Int) (a12 : Int) : (rlkA a0 a1 a2 a3 a4 a5 a6 a7 a8 a9 a10 a11 a12).Ok Try.prog (ctxOf Try.prog memo0) where
  regs := by kernel_rfl
  h0 := by kernel_rfl
  start := rlkstart a0 a1 a2 a3 a4 a5 a6 a7 a8 a9 a10 a11 a12
  node := fun a _ => match a with
   | .n0 p0 p1 p2 => rlknode0 a0 a1 a2 a3 a4 a5 a6 a7 a8 a9 a10 a11 a12 p0 p1 p2
  pd := fun a => match a with
   | .n0 p0 p1 p2 => ⟨(fa_cons rfl (fa_cons rfl (fa_cons rfl (fa_cons rfl (fa_cons rfl fa_nil))))), (fa_cons ⟨.inl (Nat.le_of_ble_eq_true rfl), rfl, rfl⟩ (fa_cons ⟨.inl (Nat.le_of_ble_eq_true rfl), rfl, rfl⟩ (fa_cons ⟨.inl (Nat.le_of_ble_eq_true rfl), rfl, rfl⟩ (fa_cons ⟨.inl (Nat.le_of_ble_eq_true rfl), rfl, rfl⟩ fa_nil)))), fa_nil, rfl⟩
  le := fun a => match a with
   | .n0 p0 p1 p2 => Nat.le_of_ble_eq_true rfl
  rd := fun v => ⟨⟨fa_nil, fa_nil, fa_nil, rfl⟩, rfl⟩
  wb := rfl


theorem rlkhR {ρ : Env} (a0 : Bool) (a1 : Int) (a2 : Int) (a3 : Int) (a4 : Int) (a5 : Nat) (a6 : Nat → Int) (a7 : Nat → Int) (a8 : Int) (a9 : Int) (a10 : Int) (a11 : Int) (a12 : Int) (hM : MemoOk Try.prog (ctxOf Try.prog memo0) ρ) : ∀ X a q n D, FxOk ρ X → X.base = (rlkA a0 a1 a2 a3 a4 a5 a6 a7 a8 a9 a10 a11 a12).base → X.nt = (rlkA a0 a1 a2 a3 a4 a5 a6 a7 a8 a9 a10 a11 a12).nt → X.W = (rlkA a0 a1 a2 a3 a4 a5 a6 a7 a8 a9 a10 a11 a12).W → (rlkA a0 a1 a2 a3 a4 a5 a6 a7 a8 a9 a10 a11 a12).rgo a = some q → q n = some D → (rlkA a0 a1 a2 a3 a4 a5 a6 a7 a8 a9 a10 a11 a12).RangeOk Try.prog ρ X a D := AF.noRange rfl

theorem rlkctr {ρ : Env} (a0 : Bool) (a1 : Int) (a2 : Int) (a3 : Int) (a4 : Int) (a5 : Nat) (a6 : Nat → Int) (a7 : Nat → Int) (a8 : Int) (a9 : Int) (a10 : Int) (a11 : Int) (a12 : Int) {n : Nat} {v : rlkR} (hM : MemoOk Try.prog (ctxOf Try.prog memo0) ρ) (hv : (rlkA a0 a1 a2 a3 a4 a5 a6 a7 a8 a9 a10 a11 a12).run n = some v) :
    Ctr Try.prog ρ 47 (rlkA a0 a1 a2 a3 a4 a5 a6 a7 a8 a9 a10 a11 a12).args (rlkA a0 a1 a2 a3 a4 a5 a6 a7 a8 a9 a10 a11 a12).H0 (rlkA a0 a1 a2 a3 a4 a5 a6 a7 a8 a9 a10 a11 a12).base (rlkA a0 a1 a2 a3 a4 a5 a6 a7 a8 a9 a10 a11 a12).W ((rlkA a0 a1 a2 a3 a4 a5 a6 a7 a8 a9 a10 a11 a12).rc v) (putH (rlkA a0 a1 a2 a3 a4 a5 a6 a7 a8 a9 a10 a11 a12).H0 ((rlkA a0 a1 a2 a3 a4 a5 a6 a7 a8 a9 a10 a11 a12).rh v ++ (rlkA a0 a1 a2 a3 a4 a5 a6 a7 a8 a9 a10 a11 a12).rx v)) ((rlkA a0 a1 a2 a3 a4 a5 a6 a7 a8 a9 a10 a11 a12).rn v) :=
  AF.ctr try_ok hM (rlkok a0 a1 a2 a3 a4 a5 a6 a7 a8 a9 a10 a11 a12) (fn := Try.f47) Try.func47 rfl rfl (Nat.le_of_ble_eq_true rfl) rfl (rlkhR a0 a1 a2 a3 a4 a5 a6 a7 a8 a9 a10 a11 a12 hM) hv


theorem rlkmem {ρ : Env} : MemoOk Try.prog (ctxOf Try.prog memo0) ρ := memo0_ok


abbrev rlkP : List AQ := [.agg [.bool, .int .i64, .int .i64, .int .i64, .int .i64, .rows [some .i64, some .i64]], .agg [.int .i64, .int .i64], .int .i64, .agg [.int .i64, .int .i64]]

noncomputable def rlkF (v : AW) : AF rlkN rlkR := rlkA (v.b.getD 0 false) (v.i.getD 0 0) (v.i.getD 1 0) (v.i.getD 2 0) (v.i.getD 3 0) (v.t.getD 0 .none).n ((v.t.getD 0 .none).c 0) ((v.t.getD 0 .none).c 1) (v.i.getD 4 0) (v.i.getD 5 0) (v.i.getD 6 0) (v.i.getD 7 0) (v.i.getD 8 0)

noncomputable def rlkW : rlkR → CV := fun v => .int .i64 (.x v)
noncomputable def rlkH : rlkR → List (Nat × Blk) := fun v => []



instance : Inhabited rlkR := ⟨0⟩
theorem rlkknown {ρ : Env} (hM : MemoOk Try.prog (ctxOf Try.prog memo0) ρ) : KnownS Try.prog ρ 47 rlkP rlkF rlkW rlkH 1 where
  fn := ⟨Try.f47, Try.func47, rfl⟩
  le := Nat.le_of_ble_eq_true rfl
  full := fun r => rfl
  rg := fun r => rfl
  hg := fun r => fa_nil
  ctr := fun v n r h => rlkctr (v.b.getD 0 false) (v.i.getD 0 0) (v.i.getD 1 0) (v.i.getD 2 0) (v.i.getD 3 0) (v.t.getD 0 .none).n ((v.t.getD 0 .none).c 0) ((v.t.getD 0 .none).c 1) (v.i.getD 4 0) (v.i.getD 5 0) (v.i.getD 6 0) (v.i.getD 7 0) (v.i.getD 8 0) hM h

end Go.Proofs.Ytlmoamafkjplbaa.Cx

/- Package die: targets, wear, the search for the first piece that is not sure; one setting on one order. -/
namespace Go.Proofs.Ytlmoamafkjplbaa.Cx
set_option linter.unusedVariables false
set_option linter.unusedSimpArgs false
set_option maxRecDepth 100000
set_option maxHeartbeats 4000000
open Go Go.RowKit

def BB (x : Int) : Prop := -1000000000000 ≤ x ∧ x ≤ 1000000000000
def gL (b : Bool) (wl wh : Int) : Int := bif b then -wh else wl
def gH (b : Bool) (wl wh : Int) : Int := bif b then -wl else wh

theorem half_val {i j : Int} (h0 : 0 ≤ i) (h1 : i < j) (h2 : j ≤ 1000000000000) : Ar.run .conv .i64 (Ar.run .shr .u64 (Ar.run .conv .u64 (Ar.run .add .i64 i j) 0) 1) 0 = (i + j) / 2 := by
  rw [arAdd (a := i) (b := j) (by omega)]
  show IntKind.wrap .i64 ((IntKind.wrap .u64 (i + j)).fdiv (2 ^ min (1 : Int).toNat 64)) = _
  rw [IntKind.wrap_u64]
  have e : (i + j) % (2 ^ 64 : Int) = i + j := by omega
  have e2 : min (1 : Int).toNat 64 = 1 := by decide
  rw [e2]
  have e3 : ((i + j) % 18446744073709551616).fdiv (2 ^ 1) = (i + j) / 2 := by
    rw [Int.fdiv_eq_ediv_of_nonneg _ (by decide)]
    omega
  first
    | rw [e3]; exact IntWalk.i64_in _ (by omega)
    | (rw [e, Int.fdiv_eq_ediv_of_nonneg _ (by decide)]; exact IntWalk.i64_in _ (by omega))

section
variable {a0 : Bool} {a1 a2 a3 a4 : Int} {a5 : Nat} {a6 a7 : Nat → Int} {a8 : Nat} {a9 a10 a11 a12 : Nat → Int} {a13 a14 a15 a16 a17 : Int}
theorem dtg_val (h1 : BB a1) (h2 : BB a2) (h3 : BB a3) (h4 : BB a4) (h5 : BB a14) (h6 : BB a15) (h7 : BB a16) (h8 : BB a17) :
    AF.fin (dtgA a0 a1 a2 a3 a4 a5 a6 a7 a8 a9 a10 a11 a12 a13 a14 a15 a16 a17) = true ∧ AF.val (dtgA a0 a1 a2 a3 a4 a5 a6 a7 a8 a9 a10 a11 a12 a13 a14 a15 a16 a17) = (a14 - a1 - gL a0 a16 a17 - a3, a15 - a2 - gH a0 a16 a17 - a4) := by
  unfold BB at *
  refine flat_val (E := fun r => r = (a14 - a1 - gL a0 a16 a17 - a3, a15 - a2 - gH a0 a16 a17 - a4)) (fun _ => rfl) ?_
  show DD.sat _ _ (dtgD0 a0 a1 a2 a3 a4 a5 a6 a7 a8 a9 a10 a11 a12 a13 a14 a15 a16 a17)
  unfold dtgD0
  simp only [DD.sat]
  rw [arSub (a := 0) (b := a17) (by omega), arSub (a := 0) (b := a16) (by omega), arSub (a := a14) (b := a1) (by omega), arSub (a := a15) (b := a2) (by omega), arSub (a := a14 - a1) (b := 0 - a17) (by omega), arSub (a := a15 - a2) (b := 0 - a16) (by omega), arSub (b := a3) (by omega), arSub (b := a4) (by omega),
    arSub (a := a14 - a1) (b := a16) (by omega), arSub (a := a15 - a2) (b := a17) (by omega), arSub (b := a3) (by omega), arSub (b := a4) (by omega)]
  refine ⟨?_, ?_⟩
  · rintro rfl
    show _ = (a14 - a1 - -a17 - a3, a15 - a2 - -a16 - a4)
    simp only [Prod.mk.injEq]; omega
  · rintro rfl
    rfl

theorem wear_bd {n w : Int} (hn : 0 ≤ n ∧ n ≤ 1000000) (hw : 0 ≤ w ∧ w ≤ 100000) : 0 ≤ n * w ∧ n * w ≤ 100000000000 := by
  refine ⟨Int.mul_nonneg hn.1 hw.1, ?_⟩
  calc n * w ≤ 1000000 * w := Int.mul_le_mul_of_nonneg_right hn.2 hw.1
    _ ≤ 100000000000 := by omega
theorem dwo_val (hw : ∀ i : Nat, (i : Int) < a5 → VOk 0 100000 (a6 i) (a7 i)) (hs : 0 ≤ a16 ∧ a16 < a5) (h1 : 0 ≤ a14 ∧ a14 ≤ 500000000000) (h2 : 0 ≤ a15 ∧ a15 ≤ 500000000000) (h3 : 0 ≤ a17 ∧ a17 ≤ 1000000) :
    AF.fin (dwoA a0 a1 a2 a3 a4 a5 a6 a7 a8 a9 a10 a11 a12 a13 a14 a15 a16 a17) = true ∧ AF.val (dwoA a0 a1 a2 a3 a4 a5 a6 a7 a8 a9 a10 a11 a12 a13 a14 a15 a16 a17) = (a14 + a17 * a6 a16.toNat, a15 + a17 * a7 a16.toNat) := by
  obtain ⟨w1, w2, w3⟩ := hw a16.toNat (by omega)
  have m1 := wear_bd h3 (w := a6 a16.toNat) (by omega)
  have m2 := wear_bd h3 (w := a7 a16.toNat) (by omega)
  refine flat_val (E := fun r => r = (a14 + a17 * a6 a16.toNat, a15 + a17 * a7 a16.toNat)) (fun _ => rfl) ?_
  show DD.sat _ _ (dwoD0 a0 a1 a2 a3 a4 a5 a6 a7 a8 a9 a10 a11 a12 a13 a14 a15 a16 a17)
  unfold dwoD0
  simp only [DD.sat, Nat.zero_add, decide_eq_true_eq]
  refine ⟨hs.1, hs.2, by omega, ?_⟩
  rw [arMul (a := a17) (b := a6 a16.toNat) (by omega), arMul (a := a17) (b := a7 a16.toNat) (by omega), arAdd (a := a14) (by omega), arAdd (a := a15) (by omega)]
end

/-- Not sure any more behind h pieces of a part. -/
def Lost (t1 t2 : Int) (b : Bool) (s1 s2 c1 c2 zl zh wl wh w1 w2 h : Int) : Prop :=
  max (max t1 (zl - s1 - gL b w1 w2 - c1)) (zl - s1 - gL b (w1 + h * wl) (w2 + h * wh) - c1) > min (min t2 (zh - s2 - gH b w1 w2 - c2)) (zh - s2 - gH b (w1 + h * wl) (w2 + h * wh) - c2)

section
variable {a0 a1 a2 : Int} {a3 : Bool} {a4 a5 a6 a7 : Int} {a8 : Nat} {a9 a10 : Nat → Int} {a11 : Nat} {a12 a13 a14 a15 : Nat → Int} {a16 a17 a18 a19 a20 a21 a22 a23 a24 : Int}
theorem dse_val (hn : 0 ≤ a0 ∧ a0 ≤ 1000000) (hw : ∀ i : Nat, (i : Int) < a8 → VOk 0 100000 (a9 i) (a10 i)) (hs : 0 ≤ a18 ∧ a18 < a8) (h4 : BB a4) (h5 : BB a5) (h6 : BB a6) (h7 : BB a7) (h19 : BB a19) (h20 : BB a20) (h23 : 0 ≤ a23 ∧ a23 ≤ 500000000000) (h24 : 0 ≤ a24 ∧ a24 ≤ 500000000000) :
    AF.fin (dseA a0 a1 a2 a3 a4 a5 a6 a7 a8 a9 a10 a11 a12 a13 a14 a15 a16 a17 a18 a19 a20 a21 a22 a23 a24) = true ∧ ∃ r : Int, AF.val (dseA a0 a1 a2 a3 a4 a5 a6 a7 a8 a9 a10 a11 a12 a13 a14 a15 a16 a17 a18 a19 a20 a21 a22 a23 a24) = r ∧ 0 ≤ r ∧ r ≤ a0 ∧ (0 < r → ¬ Lost a1 a2 a3 a4 a5 a6 a7 a19 a20 (a9 a18.toNat) (a10 a18.toNat) a23 a24 (r - 1)) ∧ (r < a0 → Lost a1 a2 a3 a4 a5 a6 a7 a19 a20 (a9 a18.toNat) (a10 a18.toNat) a23 a24 r) := by
  have w := hw a18.toNat (by omega)
  unfold VOk at w
  have h := AF.val_sat (A := dseA a0 a1 a2 a3 a4 a5 a6 a7 a8 a9 a10 a11 a12 a13 a14 a15 a16 a17 a18 a19 a20 a21 a22 a23 a24) (E := fun (r : Int) => 0 ≤ r ∧ r ≤ a0 ∧ (0 < r → ¬ Lost a1 a2 a3 a4 a5 a6 a7 a19 a20 (a9 a18.toNat) (a10 a18.toNat) a23 a24 (r - 1)) ∧ (r < a0 → Lost a1 a2 a3 a4 a5 a6 a7 a19 a20 (a9 a18.toNat) (a10 a18.toNat) a23 a24 r))
    (Inv := fun b => match b with | .n0 p0 p1 => 0 ≤ p0 ∧ p0 ≤ p1 ∧ p1 ≤ a0 ∧ (0 < p0 → ¬ Lost a1 a2 a3 a4 a5 a6 a7 a19 a20 (a9 a18.toNat) (a10 a18.toNat) a23 a24 (p0 - 1)) ∧ (p1 < a0 → Lost a1 a2 a3 a4 a5 a6 a7 a19 a20 (a9 a18.toNat) (a10 a18.toNat) a23 a24 p1))
    (fun b => match b with | .n0 p0 p1 => (p1 - p0).toNat) (fun _ => rfl) (fun a hI => ?_) ?_
  · exact ⟨h.1, _, rfl, h.2⟩
  · cases a with
    | n0 p0 p1 =>
      obtain ⟨g0, g1, g2, g3, g4⟩ := hI
      show DD.sat _ _ (dseD a0 a1 a2 a3 a4 a5 a6 a7 a8 a9 a10 a11 a12 a13 a14 a15 a16 a17 a18 a19 a20 a21 a22 a23 a24 (.n0 p0 p1))
      unfold dseD
      simp only [DD.sat, Nat.zero_add, cmLss, cmLssF, cmGtr, cmGtrF, decide_eq_true_eq]
      refine ⟨fun h => ?_, fun h => ⟨g0, by omega, g3, fun hr => by
        have e : p0 = p1 := by omega
        rw [e]; exact g4 (by omega)⟩⟩
      have eh := half_val g0 h (by omega)
      have ha : Ar.run .add .i64 ((p0 + p1) / 2) 1 = (p0 + p1) / 2 + 1 := arAdd (by omega)
      rw [eh, ha]
      have hh : p0 ≤ (p0 + p1) / 2 ∧ (p0 + p1) / 2 < p1 := by omega
      generalize (p0 + p1) / 2 = m at hh
      have m1 := wear_bd (n := m) (w := a9 a18.toNat) (by omega) (by omega)
      have m2 := wear_bd (n := m) (w := a10 a18.toNat) (by omega) (by omega)
      have t1 : AF.fin (dtgA a3 a4 a5 a6 a7 a8 a9 a10 a11 a12 a13 a14 a15 a16 a19 a20 a23 a24) = true ∧ _ := dtg_val h4 h5 h6 h7 h19 h20 (by unfold BB; omega) (by unfold BB; omega)
      have t2 : AF.fin (dwoA a3 a4 a5 a6 a7 a8 a9 a10 a11 a12 a13 a14 a15 a16 a23 a24 a18 m) = true ∧ _ := dwo_val hw hs h23 h24 (by omega)
      have t3 : AF.fin (dtgA a3 a4 a5 a6 a7 a8 a9 a10 a11 a12 a13 a14 a15 a16 a19 a20 (a23 + m * a9 a18.toNat) (a24 + m * a10 a18.toNat)) = true ∧ _ := dtg_val h4 h5 h6 h7 h19 h20 (by unfold BB; omega) (by unfold BB; omega)
      have e1 : AF.val (dtgA a3 a4 a5 a6 a7 a8 (fun i => a9 i) (fun i => a10 i) a11 (fun i => a12 i) (fun i => a13 i) (fun i => a14 i) (fun i => a15 i) a16 a19 a20 a23 a24) = _ := t1.2
      have e2 : AF.val (dwoA a3 a4 a5 a6 a7 a8 (fun i => a9 i) (fun i => a10 i) a11 (fun i => a12 i) (fun i => a13 i) (fun i => a14 i) (fun i => a15 i) a16 a23 a24 a18 m) = _ := t2.2
      have e3 : AF.val (dtgA a3 a4 a5 a6 a7 a8 (fun i => a9 i) (fun i => a10 i) a11 (fun i => a12 i) (fun i => a13 i) (fun i => a14 i) (fun i => a15 i) a16 a19 a20 (a23 + m * a9 a18.toNat) (a24 + m * a10 a18.toNat)) = _ := t3.2
      simp only [e1, e2, e3, arMx, arMn]
      refine ⟨Nat.le_refl _, shape_ok fun i _ => rfl, Nat.le_refl _, shape_ok fun i _ => rfl, t1.1, Nat.le_refl _, shape_ok fun i _ => rfl, Nat.le_refl _, shape_ok fun i _ => rfl, t2.1, Nat.le_refl _, shape_ok fun i _ => rfl, Nat.le_refl _, shape_ok fun i _ => rfl, t3.1, fun hl => ?_, fun hl => ?_⟩
      · exact ⟨⟨g0, by omega, by omega, g3, fun _ => hl⟩, by omega⟩
      · refine ⟨⟨by omega, by omega, g2, fun _ => ?_, g4⟩, by omega⟩
        rw [show m + 1 - 1 = m by omega]
        exact Int.not_lt.2 hl
  · show 0 ≤ (0 : Int) ∧ (0 : Int) ≤ a0 ∧ a0 ≤ a0 ∧ _ ∧ _
    exact ⟨by omega, by omega, by omega, fun h => by omega, fun h => by omega⟩
end

/-- A piece is sure behind n others: with a size within bounds, set to 0. -/
def PSure (b : Bool) (s1 s2 c1 c2 zl zh wl wh n : Int) : Prop := zl ≤ s1 + gL b (n * wl) (n * wh) + c1 ∧ s2 + gH b (n * wl) (n * wh) + c2 ≤ zh
theorem lost_iff {b : Bool} {s1 s2 c1 c2 zl zh wl wh n : Int} : Lost 0 0 b s1 s2 c1 c2 zl zh wl wh 0 0 n ↔ ¬ (PSure b s1 s2 c1 c2 zl zh wl wh 0 ∧ PSure b s1 s2 c1 c2 zl zh wl wh n) := by
  unfold Lost PSure gL gH
  rw [Int.zero_mul, Int.zero_mul, Int.zero_add, Int.zero_add]
  cases b <;> simp only [cond_true, cond_false] <;> omega
theorem psure_mid {b : Bool} {s1 s2 c1 c2 zl zh wl wh n m : Int} (hw : 0 ≤ wl ∧ 0 ≤ wh) (h0 : PSure b s1 s2 c1 c2 zl zh wl wh 0) (hn : PSure b s1 s2 c1 c2 zl zh wl wh n) (h1 : 0 ≤ m) (h2 : m ≤ n) : PSure b s1 s2 c1 c2 zl zh wl wh m := by
  have q1 : 0 ≤ m * wl := Int.mul_nonneg h1 hw.1
  have q2 : 0 ≤ m * wh := Int.mul_nonneg h1 hw.2
  have q3 : m * wl ≤ n * wl := Int.mul_le_mul_of_nonneg_right h2 hw.1
  have q4 : m * wh ≤ n * wh := Int.mul_le_mul_of_nonneg_right h2 hw.2
  unfold PSure gL gH at *
  rw [Int.zero_mul, Int.zero_mul] at h0
  cases b <;> simp only [cond_true, cond_false] at * <;> omega
/-- The first of m pieces that is not sure, or m. -/
def FstN (P : Int → Prop) (m r : Int) : Prop := 0 ≤ r ∧ r ≤ m ∧ (∀ k, 0 ≤ k → k < r → P k) ∧ (r < m → ¬ P r)
theorem FstN.same {P : Int → Prop} {m r r' : Int} (h : FstN P m r) (h' : FstN P m r') : r = r' := by
  obtain ⟨h1, h2, h3, h4⟩ := h
  obtain ⟨g1, g2, g3, g4⟩ := h'
  rcases Int.lt_trichotomy r r' with q | q | q
  · exact absurd (g3 r h1 q) (h4 (by omega))
  · exact q
  · exact absurd (h3 r' g1 q) (g4 (by omega))
theorem fst_of_search {b : Bool} {s1 s2 c1 c2 zl zh wl wh m r : Int} (hw : 0 ≤ wl ∧ 0 ≤ wh) (h0 : 0 ≤ r) (h1 : r ≤ m) (h2 : 0 < r → ¬ Lost 0 0 b s1 s2 c1 c2 zl zh wl wh 0 0 (r - 1)) (h3 : r < m → Lost 0 0 b s1 s2 c1 c2 zl zh wl wh 0 0 r) : FstN (PSure b s1 s2 c1 c2 zl zh wl wh) m r := by
  have h2' : 0 < r → PSure b s1 s2 c1 c2 zl zh wl wh 0 ∧ PSure b s1 s2 c1 c2 zl zh wl wh (r - 1) := fun h => Classical.not_not.1 (fun q => h2 h (lost_iff.2 q))
  refine ⟨h0, h1, fun k hk hkr => ?_, fun hr hP => ?_⟩
  · obtain ⟨q1, q2⟩ := h2' (by omega)
    exact psure_mid hw q1 q2 hk (by omega)
  · refine lost_iff.1 (h3 hr) ⟨?_, hP⟩
    by_cases hz : r = 0
    · subst hz; exact hP
    · exact (h2' (by omega)).1
end Go.Proofs.Ytlmoamafkjplbaa.Cx

/- Package die: one setting on one order; die.Looks and acmeref07.Looks. -/
namespace Go.Proofs.Ytlmoamafkjplbaa.Cx
set_option linter.unusedVariables false
set_option linter.unusedSimpArgs false
set_option maxRecDepth 100000
set_option maxHeartbeats 4000000
open Go Go.RowKit

def RchE (P : Int → Prop) : drcs0R → Prop
  | .r0 _ _ _ _ => FstN P 10000 10000
  | .r1 _ _ q2 _ _ => FstN P 10000 q2

section
variable {a0 : Bool} {a1 a2 a3 a4 : Int} {a5 : Nat} {a6 a7 : Nat → Int} {a9 a10 a11 a12 : Nat → Int}
theorem drs_run (h9 : a9 0 = 10000) (hs : 0 ≤ a10 0 ∧ a10 0 < a5) (hw : ∀ i : Nat, (i : Int) < a5 → VOk 0 100000 (a6 i) (a7 i)) (h1 : BB a1) (h2 : BB a2) (h3 : BB a3) (h4 : BB a4) (h11 : BB (a11 0)) (h12 : BB (a12 0)) : ∃ n v, AF.run (drcs0A a0 a1 a2 a3 a4 a5 a6 a7 1 a9 a10 a11 a12 10000 0 0 0 10000) n = some v ∧ RchE (PSure a0 a1 a2 a3 a4 (a11 0) (a12 0) (a6 (a10 0).toNat) (a7 (a10 0).toNat)) v := by
  have w := hw (a10 0).toNat (by omega)
  unfold VOk at w
  obtain ⟨sf, r, sr, r0, r1, r2, r3⟩ := dse_val (a0 := 10000) (a1 := 0) (a2 := 0) (a3 := a0) (a4 := a1) (a5 := a2) (a6 := a3) (a7 := a4) (a8 := a5) (a9 := a6) (a10 := a7) (a11 := 1) (a12 := a9) (a13 := a10) (a14 := a11) (a15 := a12) (a16 := 10000) (a17 := 10000) (a18 := a10 0) (a19 := a11 0) (a20 := a12 0) (a21 := 0) (a22 := 10000) (a23 := 0) (a24 := 0) (by omega) hw hs h1 h2 h3 h4 h11 h12 (by omega) (by omega)
  have hF := fst_of_search (by omega) r0 r1 r2 r3
  have sr' : AF.val (dseA 10000 0 0 a0 a1 a2 a3 a4 a5 (fun i => a6 i) (fun i => a7 i) 1 (fun i => a9 i) (fun i => a10 i) (fun i => a11 i) (fun i => a12 i) 10000 10000 (a10 0) (a11 0) (a12 0) 0 10000 0 0) = r := sr
  refine AF.run_sat (E := RchE (PSure a0 a1 a2 a3 a4 (a11 0) (a12 0) (a6 (a10 0).toNat) (a7 (a10 0).toNat))) (Inv := fun b => match b with | .n0 q0 q1 q2 q3 q4 q5 => (q1 = 0 ∧ q0 = 0 ∧ q2 = 0 ∧ q3 = 0 ∧ q4 = 0 ∧ q5 = 0) ∨ (q1 = 1 ∧ FstN (PSure a0 a1 a2 a3 a4 (a11 0) (a12 0) (a6 (a10 0).toNat) (a7 (a10 0).toNat)) 10000 10000))
    (fun b => match b with | .n0 q0 q1 q2 q3 q4 q5 => (1 - q1).toNat) (fun b => rfl) (fun a hI => ?_) ?_
  · cases a with
    | n0 q0 q1 q2 q3 q4 q5 =>
      show DD.sat _ _ (drcs0D a0 a1 a2 a3 a4 a5 a6 a7 1 a9 a10 a11 a12 10000 0 0 0 10000 (.n0 q0 q1 q2 q3 q4 q5))
      unfold drcs0D
      rcases hI with ⟨rfl, rfl, rfl, rfl, rfl, rfl⟩ | ⟨rfl, hP⟩
      · have e1 : Ar.run .mn .i64 (Ar.run .add .i64 0 10000) 10000 = 10000 := by rw [arAdd (by omega), arMn]; omega
        have e2 : Ar.run .mx .i64 0 0 = 0 := by rw [arMx]; omega
        have e3 : Ar.run .sub .i64 10000 0 = 10000 := arSub (by omega)
        have e4 : Ar.run .add .i64 0 r = r := by rw [arAdd (by omega)]; omega
        have e5 : Ar.run .add .i64 0 1 = 1 := arAdd (by omega)
        have e6 : 0 < r → Ar.run .sub .i64 r 1 = r - 1 := fun h => arSub (by omega)
        have t1 : AF.fin (dtgA a0 a1 a2 a3 a4 a5 a6 a7 1 a9 a10 a11 a12 10000 (a11 0) (a12 0) 0 0) = true ∧ _ := dtg_val h1 h2 h3 h4 h11 h12 (by unfold BB; omega) (by unfold BB; omega)
        have t2 : AF.fin (dwoA a0 a1 a2 a3 a4 a5 a6 a7 1 a9 a10 a11 a12 10000 0 0 (a10 0) r) = true ∧ _ := dwo_val hw hs (by omega) (by omega) (by omega)
        simp only [DD.sat, Nat.zero_add, Int.toNat_zero, h9, e1, e2, e3, e4, e5, sr', cmLss, cmLssF, cmGtr, cmGtrF, decide_eq_true_eq]
        refine ⟨fun _ => ⟨by omega, by omega, by omega, fun _ => ⟨Nat.le_refl _, shape_ok fun i _ => rfl, Nat.le_refl _, shape_ok fun i _ => rfl, sf, fun hr => ?_, fun hr => ?_⟩, fun h => by omega⟩, fun h => by omega⟩
        · have t3 : AF.fin (dwoA a0 a1 a2 a3 a4 a5 a6 a7 1 a9 a10 a11 a12 10000 0 0 (a10 0) (r - 1)) = true ∧ _ := dwo_val hw hs (by omega) (by omega) (by omega)
          have m1 := wear_bd (n := r - 1) (w := a6 (a10 0).toNat) (by omega) (by omega)
          have m2 := wear_bd (n := r - 1) (w := a7 (a10 0).toNat) (by omega) (by omega)
          have t4 : AF.fin (dtgA a0 a1 a2 a3 a4 a5 a6 a7 1 a9 a10 a11 a12 10000 (a11 0) (a12 0) (0 + (r - 1) * a6 (a10 0).toNat) (0 + (r - 1) * a7 (a10 0).toNat)) = true ∧ _ := dtg_val h1 h2 h3 h4 h11 h12 (by unfold BB; omega) (by unfold BB; omega)
          have e7 : AF.val (dwoA a0 a1 a2 a3 a4 a5 (fun i => a6 i) (fun i => a7 i) 1 (fun i => a9 i) (fun i => a10 i) (fun i => a11 i) (fun i => a12 i) 10000 0 0 (a10 0) (r - 1)) = _ := t3.2
          simp only [e6 hr, e7]
          refine ⟨Nat.le_refl _, shape_ok fun i _ => rfl, Nat.le_refl _, shape_ok fun i _ => rfl, t1.1, Nat.le_refl _, shape_ok fun i _ => rfl, Nat.le_refl _, shape_ok fun i _ => rfl, t3.1, Nat.le_refl _, shape_ok fun i _ => rfl, Nat.le_refl _, shape_ok fun i _ => rfl, t4.1, fun h => hF, fun h => ⟨Nat.le_refl _, shape_ok fun i _ => rfl, Nat.le_refl _, shape_ok fun i _ => rfl, t2.1, .inr ⟨trivial, ?_⟩, by omega⟩⟩
          obtain rfl : r = 10000 := by omega
          exact hF
        · exact ⟨fun h => hF, fun h => by omega⟩
      · simp only [DD.sat, cmLss, cmLssF]
        exact ⟨fun h => by omega, fun h => hP⟩
  · show (0 : Int) = 0 ∧ (0 : Int) = 0 ∧ (0 : Int) = 0 ∧ (0 : Int) = 0 ∧ (0 : Int) = 0 ∧ (0 : Int) = 0 ∨ _
    exact .inl ⟨rfl, rfl, rfl, rfl, rfl, rfl⟩

theorem drc_mono {b0 : Bool} {b1 b2 b3 b4 : Int} {b5 : Nat} {b6 b7 : Nat → Int} {b8 : Nat} {b9 b10 b11 b12 : Nat → Int} {b13 b14 b15 b16 b17 : Int} : AF.Mono (drcA b0 b1 b2 b3 b4 b5 b6 b7 b8 b9 b10 b11 b12 b13 b14 b15 b16 b17) := by
  intro a q n m D hq hnm hD
  cases a with
  | n0 =>
    have hq : some (fun n => (AF.run (drcs0A b0 b1 b2 b3 b4 b5 b6 b7 b8 b9 b10 b11 b12 b13 b14 b15 b16 b17) n).map (drcRg0 b0 b1 b2 b3 b4 b5 b6 b7 b8 b9 b10 b11 b12 b13 b14 b15 b16 b17)) = some q := hq
    cases hq
    obtain ⟨v, hv, rfl⟩ := Option.map_eq_some_iff.1 hD
    show Option.map _ (AF.run _ m) = _
    rw [AF.run_mono (AF.mono_none fun _ => rfl) hnm hv]
    rfl

theorem drc_val (h9 : a9 0 = 10000) (hs : 0 ≤ a10 0 ∧ a10 0 < a5) (hw : ∀ i : Nat, (i : Int) < a5 → VOk 0 100000 (a6 i) (a7 i)) (h1 : BB a1) (h2 : BB a2) (h3 : BB a3) (h4 : BB a4) (h11 : BB (a11 0)) (h12 : BB (a12 0)) : AF.fin (drcA a0 a1 a2 a3 a4 a5 a6 a7 1 a9 a10 a11 a12 10000 0 0 0 10000) = true ∧ FstN (PSure a0 a1 a2 a3 a4 (a11 0) (a12 0) (a6 (a10 0).toNat) (a7 (a10 0).toNat)) 10000 (AF.val (drcA a0 a1 a2 a3 a4 a5 a6 a7 1 a9 a10 a11 a12 10000 0 0 0 10000)).2.2 := by
  obtain ⟨n, v, hv, hE⟩ := drs_run (a0 := a0) h9 hs hw h1 h2 h3 h4 h11 h12
  have hD : (drcA a0 a1 a2 a3 a4 a5 a6 a7 1 a9 a10 a11 a12 10000 0 0 0 10000).D0.eval = some (.next .n0 [2, 3, 4, 5, 6, 7, 8, 9]) := rfl
  have hq : (drcA a0 a1 a2 a3 a4 a5 a6 a7 1 a9 a10 a11 a12 10000 0 0 0 10000).rgo .n0 = some (fun n => (AF.run (drcs0A a0 a1 a2 a3 a4 a5 a6 a7 1 a9 a10 a11 a12 10000 0 0 0 10000) n).map (drcRg0 a0 a1 a2 a3 a4 a5 a6 a7 1 a9 a10 a11 a12 10000 0 0 0 10000)) := rfl
  cases v with
  | r0 q0 q1 q2 q3 =>
    have hr : AF.run (drcA a0 a1 a2 a3 a4 a5 a6 a7 1 a9 a10 a11 a12 10000 0 0 0 10000) (n + 1) = some (q0, q1, 10000) := by
      have e : AF.run (drcA a0 a1 a2 a3 a4 a5 a6 a7 1 a9 a10 a11 a12 10000 0 0 0 10000) (n + 1) = AF.go (drcA a0 a1 a2 a3 a4 a5 a6 a7 1 a9 a10 a11 a12 10000 0 0 0 10000) (n + 1) .n0 := by unfold AF.run; rw [hD]
      rw [e]
      unfold AF.go
      rw [hq]
      simp only [hv, Option.map_some]
      rfl
    have k := AF.val_of drc_mono hr
    exact ⟨k.1, by rw [k.2]; exact hE⟩
  | r1 q0 q1 q2 q3 q4 =>
    have hr : AF.run (drcA a0 a1 a2 a3 a4 a5 a6 a7 1 a9 a10 a11 a12 10000 0 0 0 10000) (n + 1) = some (q0, q1, q2) := by
      have e : AF.run (drcA a0 a1 a2 a3 a4 a5 a6 a7 1 a9 a10 a11 a12 10000 0 0 0 10000) (n + 1) = AF.go (drcA a0 a1 a2 a3 a4 a5 a6 a7 1 a9 a10 a11 a12 10000 0 0 0 10000) (n + 1) .n0 := by unfold AF.run; rw [hD]
      rw [e]
      unfold AF.go
      rw [hq]
      simp only [hv, Option.map_some]
      rfl
    have k := AF.val_of drc_mono hr
    exact ⟨k.1, by rw [k.2]; exact hE⟩
end

section
variable {a0 : Bool} {a1 a2 a3 a4 : Int} {a5 : Nat} {a6 a7 : Nat → Int} {a8 a9 a10 a11 a12 : Int}
def LkOk (a8 a9 a11 a12 : Int) : Prop := VOk (-20000000000) 20000000000 a8 a9 ∧ VOk 0 10000000000 a11 a12
def LooksE (a0 : Bool) (a1 a2 a3 a4 : Int) (a5 : Nat) (a6 a7 : Nat → Int) (a8 a9 a10 a11 a12 : Int) (v : Int × Int) : Prop := ∃ e, TV a5 (ToolOk a5 a6 a7 a1 a2 a3 a4) e ∧ (e ≠ 0 ∧ v = (0, e) ∨ e = 0 ∧ (¬ LkOk a8 a9 a11 a12 ∧ v = (0, 2) ∨ LkOk a8 a9 a11 a12 ∧ (¬ (0 ≤ a10 ∧ a10 < a5) ∧ v = (0, 7) ∨ (0 ≤ a10 ∧ a10 < a5) ∧ ∃ r, FstN (PSure a0 a8 a9 a3 a4 a11 a12 (a6 a10.toNat) (a7 a10.toNat)) 10000 r ∧ v = (r, 0))))
theorem dlo_val (hn : a5 ≤ 10000) : AF.fin (dloA a0 a1 a2 a3 a4 a5 a6 a7 a8 a9 a10 a11 a12) = true ∧ LooksE a0 a1 a2 a3 a4 a5 a6 a7 a8 a9 a10 a11 a12 (AF.val (dloA a0 a1 a2 a3 a4 a5 a6 a7 a8 a9 a10 a11 a12)) := by
  have hC := dct_val (a0 := a0) (a1 := a1) (a2 := a2) (a3 := a3) (a4 := a4) (a5 := a5) (a6 := a6) (a7 := a7) hn
  refine flat_val (E := LooksE a0 a1 a2 a3 a4 a5 a6 a7 a8 a9 a10 a11 a12) (fun _ => rfl) ?_
  show DD.sat _ _ (dloD0 a0 a1 a2 a3 a4 a5 a6 a7 a8 a9 a10 a11 a12)
  unfold dloD0
  simp only [DD.sat, Nat.zero_add, cmNeq, cmNeqF, decide_eq_true_eq, cmLeq, cmLeqF, cmLss, cmLssF, cmGtr, cmGtrF]
  refine ⟨Nat.le_refl _, shape_ok fun i _ => rfl, hC.1, fun h => ⟨_, hC.2, .inl ⟨h, rfl⟩⟩, fun h => ?_⟩
  have q := hC.2
  rw [show AF.val (dctA a0 a1 a2 a3 a4 a5 a6 a7) = 0 from h] at q
  obtain ⟨⟨t1, t2, t3, c⟩, _⟩ := q.ok
  unfold VOk at c
  have bad : ¬ LkOk a8 a9 a11 a12 → LooksE a0 a1 a2 a3 a4 a5 a6 a7 a8 a9 a10 a11 a12 (0, 2) := fun hb => ⟨0, q, .inr ⟨rfl, .inl ⟨hb, rfl⟩⟩⟩
  have e1 : Ar.run .sub .i64 (a5 : Int) 1 = a5 - 1 := arSub (by omega)
  rw [e1]
  refine ⟨fun b1 => ⟨fun b2 => ⟨fun b3 => ⟨fun b4 => ⟨fun b5 => ⟨fun b6 => ?_, fun b6 => bad fun s => ?_⟩, fun b5 => bad fun s => ?_⟩, fun b4 => bad fun s => ?_⟩, fun b3 => bad fun s => ?_⟩, fun b2 => bad fun s => ?_⟩, fun b1 => bad fun s => ?_⟩
  case refine_1 =>
    have s : LkOk a8 a9 a11 a12 := ⟨⟨b1, b2, b3⟩, b4, b5, b6⟩
    have none : ¬ (0 ≤ a10 ∧ a10 < a5) → LooksE a0 a1 a2 a3 a4 a5 a6 a7 a8 a9 a10 a11 a12 (0, 7) := fun hb => ⟨0, q, .inr ⟨rfl, .inr ⟨s, .inl ⟨hb, rfl⟩⟩⟩⟩
    refine ⟨fun b7 => none (by omega), fun b7 => ⟨fun b8 => none (by omega), fun b8 => ?_⟩⟩
    have hd := drc_val (a0 := a0) (a1 := a8) (a2 := a9) (a3 := a3) (a4 := a4) (a5 := a5) (a6 := a6) (a7 := a7) (a9 := (fun i => List.getD [10000] i 0)) (a10 := (fun i => List.getD [a10] i 0)) (a11 := (fun i => List.getD [a11] i 0)) (a12 := (fun i => List.getD [a12] i 0)) rfl (show 0 ≤ a10 ∧ a10 < a5 by omega) t2 (by unfold BB; omega) (by unfold BB; omega) (by unfold BB; omega) (by unfold BB; omega) (show BB a11 by unfold BB; omega) (show BB a12 by unfold BB; omega)
    exact ⟨Nat.le_refl _, shape_ok fun i _ => rfl, hd.1, 0, q, .inr ⟨rfl, .inr ⟨s, .inr ⟨by omega, _, hd.2, rfl⟩⟩⟩⟩
  all_goals
    obtain ⟨⟨s1, s2, s3⟩, s4, s5, s6⟩ := s
    omega

theorem rlk_val (hs : 0 ≤ a10 ∧ a10 < a5) (hw : ∀ i : Nat, (i : Int) < a5 → VOk 0 100000 (a6 i) (a7 i)) (h8 : BB a8) (h9 : BB a9) (h3 : BB a3) (h4 : BB a4) : AF.fin (rlkA a0 a1 a2 a3 a4 a5 a6 a7 a8 a9 a10 a11 a12) = true ∧ FstN (PSure a0 a8 a9 a3 a4 a11 a12 (a6 a10.toNat) (a7 a10.toNat)) 10000 (AF.val (rlkA a0 a1 a2 a3 a4 a5 a6 a7 a8 a9 a10 a11 a12)) := by
  have w := hw a10.toNat (by omega)
  unfold VOk at w
  unfold BB at h8 h9 h3 h4
  refine AF.val_sat (E := FstN (PSure a0 a8 a9 a3 a4 a11 a12 (a6 a10.toNat) (a7 a10.toNat)) 10000)
    (Inv := fun b => match b with | .n0 p0 p1 p2 => 0 ≤ p0 ∧ p0 ≤ 10000 ∧ p1 = a8 + gL a0 (p0 * a6 a10.toNat) (p0 * a7 a10.toNat) ∧ p2 = a9 + gH a0 (p0 * a6 a10.toNat) (p0 * a7 a10.toNat) ∧ ∀ k, 0 ≤ k → k < p0 → (PSure a0 a8 a9 a3 a4 a11 a12 (a6 a10.toNat) (a7 a10.toNat)) k)
    (fun b => match b with | .n0 p0 p1 p2 => (10000 - p0).toNat) (fun _ => rfl) (fun a hI => ?_) ?_
  · cases a with
    | n0 p0 p1 p2 =>
      obtain ⟨g0, g1, rfl, rfl, g4⟩ := hI
      show DD.sat _ _ (rlkD a0 a1 a2 a3 a4 a5 a6 a7 a8 a9 a10 a11 a12 (.n0 p0 _ _))
      unfold rlkD
      have hP : (PSure a0 a8 a9 a3 a4 a11 a12 (a6 a10.toNat) (a7 a10.toNat)) p0 ↔ a11 ≤ a8 + gL a0 (p0 * a6 a10.toNat) (p0 * a7 a10.toNat) + a3 ∧ a9 + gH a0 (p0 * a6 a10.toNat) (p0 * a7 a10.toNat) + a4 ≤ a12 := Iff.rfl
      have m1 := wear_bd (n := p0) (w := a6 a10.toNat) (by omega) (by omega)
      have m2 := wear_bd (n := p0) (w := a7 a10.toNat) (by omega) (by omega)
      have n1 : (p0 + 1) * a6 a10.toNat = p0 * a6 a10.toNat + a6 a10.toNat := by rw [Int.add_mul, Int.one_mul]
      have n2 : (p0 + 1) * a7 a10.toNat = p0 * a7 a10.toNat + a7 a10.toNat := by rw [Int.add_mul, Int.one_mul]
      have nx : (PSure a0 a8 a9 a3 a4 a11 a12 (a6 a10.toNat) (a7 a10.toNat)) p0 → ∀ k, 0 ≤ k → k < p0 + 1 → (PSure a0 a8 a9 a3 a4 a11 a12 (a6 a10.toNat) (a7 a10.toNat)) k := fun h k k0 k1 => by
        by_cases he : k < p0
        · exact g4 k k0 he
        · obtain rfl : k = p0 := by omega
          exact h
      have stop : ¬ (PSure a0 a8 a9 a3 a4 a11 a12 (a6 a10.toNat) (a7 a10.toNat)) p0 → FstN (PSure a0 a8 a9 a3 a4 a11 a12 (a6 a10.toNat) (a7 a10.toNat)) 10000 p0 := fun h => ⟨g0, g1, g4, fun _ => h⟩
      have ea : p0 < 10000 → Ar.run .add .i64 p0 1 = p0 + 1 := fun h => arAdd (by omega)
      simp only [DD.sat, Nat.zero_add, cmLss, cmLssF, cmGeq, cmGeqF, cmLeq, cmLeqF]
      cases a0
      · simp only [gL, gH, cond_false, Bool.false_eq_true, false_implies, true_implies] at *
        rw [arAdd (a := a8 + p0 * a6 a10.toNat) (b := a3) (by omega), arAdd (a := a9 + p0 * a7 a10.toNat) (b := a4) (by omega), arAdd (a := a8 + p0 * a6 a10.toNat) (b := a6 a10.toNat) (by omega), arAdd (a := a9 + p0 * a7 a10.toNat) (b := a7 a10.toNat) (by omega)]
        refine ⟨fun h => ⟨fun b1 => ⟨fun b2 => ⟨trivial, ?_⟩, fun b2 => stop fun s => ?_⟩, fun b1 => stop fun s => ?_⟩, fun h => ⟨g0, g1, g4, fun hx => by omega⟩⟩
        · rw [ea h, n1, n2]
          exact ⟨⟨by omega, by omega, by omega, by omega, nx (hP.2 ⟨b1, b2⟩)⟩, by omega⟩
        · have := (hP.1 s).2; omega
        · have := (hP.1 s).1; omega
      · simp only [gL, gH, cond_true, Bool.true_eq_false, false_implies, true_implies] at *
        rw [arAdd (a := a8 + -(p0 * a7 a10.toNat)) (b := a3) (by omega), arAdd (a := a9 + -(p0 * a6 a10.toNat)) (b := a4) (by omega), arSub (a := a8 + -(p0 * a7 a10.toNat)) (b := a7 a10.toNat) (by omega), arSub (a := a9 + -(p0 * a6 a10.toNat)) (b := a6 a10.toNat) (by omega)]
        refine ⟨fun h => ⟨fun b1 => ⟨fun b2 => ⟨?_, trivial⟩, fun b2 => stop fun s => ?_⟩, fun b1 => stop fun s => ?_⟩, fun h => ⟨g0, g1, g4, fun hx => by omega⟩⟩
        · rw [ea h, n1, n2]
          exact ⟨⟨by omega, by omega, by omega, by omega, nx (hP.2 ⟨b1, b2⟩)⟩, by omega⟩
        · have := (hP.1 s).2; omega
        · have := (hP.1 s).1; omega
  · show DD.sat _ _ (rlkD0 a0 a1 a2 a3 a4 a5 a6 a7 a8 a9 a10 a11 a12)
    unfold rlkD0
    simp only [DD.sat, decide_eq_true_eq]
    refine ⟨hs.1, hs.2, by omega, by omega, by omega, ?_, ?_, fun k k0 k1 => by omega⟩
    · rw [Int.zero_mul, Int.zero_mul]; cases a0 <;> simp [gL]
    · rw [Int.zero_mul, Int.zero_mul]; cases a0 <;> simp [gH]
end
end Go.Proofs.Ytlmoamafkjplbaa.Cx

/- acme/acmelaw07.DieLearned$1 as an automaton. Made by tools/cxauto.py. -/
namespace Go.Proofs.Ytlmoamafkjplbaa.Cx
set_option linter.unusedVariables false
set_option linter.unusedSimpArgs false
set_option maxRecDepth 100000
open Go Go.Proofs Go.RowKit

noncomputable abbrev denCode : Code := funcCode Try.f54


inductive denN where
  | n0 (p0 : Int) (p1 : Int)

abbrev denR := Bool

noncomputable def denD0 (a0 : Int) (a1 : Bool) (a2 : Int) (a3 : Int) (a4 : Bool) (a5 : Int) (a6 : Int) (a7 : Int) (a8 : Int) (a9 : Nat) (a10 : Nat → Int) (a11 : Nat → Int) (a12 : Int) (a13 : Int) : DD (Lf denN denR) :=
 .ask (a1)
   (.ask (a1)
   (.leaf (.next (.n0 (Ar.run Ar.add IntKind.i64 a3 a8) 0) []))
   (.leaf (.next (.n0 (Ar.run Ar.add IntKind.i64 a3 a7) 0) [])))
   (.ask (a1)
   (.leaf (.next (.n0 (Ar.run Ar.add IntKind.i64 a2 a8) 0) []))
   (.leaf (.next (.n0 (Ar.run Ar.add IntKind.i64 a2 a7) 0) [])))

noncomputable def denD (a0 : Int) (a1 : Bool) (a2 : Int) (a3 : Int) (a4 : Bool) (a5 : Int) (a6 : Int) (a7 : Int) (a8 : Int) (a9 : Nat) (a10 : Nat → Int) (a11 : Nat → Int) (a12 : Int) (a13 : Int) : denN → DD (Lf denN denR)
 | .n0 p0 p1 =>
 .ask (Cm.run Cm.lss p1 a0)
   (.ask (Cm.run Cm.lss p0 a12)
   (.leaf (.done false []))
   (.ask (Cm.run Cm.gtr p0 a13)
   (.leaf (.done false []))
   (.must (true)
   (.must (decide (0 < (↑a9 : Int)))
   (.must (decide (0 + Int.toNat 0 < a9))
   (.ask (a1)
   (.ask (a4)
   (.ask (a4)
   (.leaf (.next (.n0 (Ar.run Ar.sub IntKind.i64 p0 (a10 (0 + Int.toNat 0))) (Ar.run Ar.add IntKind.i64 p1 1)) []))
   (.leaf (.next (.n0 (Ar.run Ar.add IntKind.i64 p0 (a10 (0 + Int.toNat 0))) (Ar.run Ar.add IntKind.i64 p1 1)) [])))
   (.ask (a4)
   (.leaf (.next (.n0 (Ar.run Ar.sub IntKind.i64 p0 (a11 (0 + Int.toNat 0))) (Ar.run Ar.add IntKind.i64 p1 1)) []))
   (.leaf (.next (.n0 (Ar.run Ar.add IntKind.i64 p0 (a11 (0 + Int.toNat 0))) (Ar.run Ar.add IntKind.i64 p1 1)) []))))
   (.ask (a4)
   (.ask (a4)
   (.leaf (.next (.n0 (Ar.run Ar.sub IntKind.i64 p0 (a11 (0 + Int.toNat 0))) (Ar.run Ar.add IntKind.i64 p1 1)) []))
   (.leaf (.next (.n0 (Ar.run Ar.add IntKind.i64 p0 (a11 (0 + Int.toNat 0))) (Ar.run Ar.add IntKind.i64 p1 1)) [])))
   (.ask (a4)
   (.leaf (.next (.n0 (Ar.run Ar.sub IntKind.i64 p0 (a10 (0 + Int.toNat 0))) (Ar.run Ar.add IntKind.i64 p1 1)) []))
   (.leaf (.next (.n0 (Ar.run Ar.add IntKind.i64 p0 (a10 (0 + Int.toNat 0))) (Ar.run Ar.add IntKind.i64 p1 1)) []))))))))))
   (.leaf (.done true []))

noncomputable def denA (a0 : Int) (a1 : Bool) (a2 : Int) (a3 : Int) (a4 : Bool) (a5 : Int) (a6 : Int) (a7 : Int) (a8 : Int) (a9 : Nat) (a10 : Nat → Int) (a11 : Nat → Int) (a12 : Int) (a13 : Int) : AF denN denR where
  code := denCode
  base := 4
  nt := 55
  m := 400
  un := []
  W := []
  h0 := [(0, ⟨.arg 1 2 (fun i => [.int .i64 (.x a2), .int .i64 (.x a3)]) (fun _ => ⟨rfl, rfl⟩), 2, true, none⟩), (1, ⟨.arg 1 6 (fun i => [.bool (.x a4), .int .i64 (.x a5), .int .i64 (.x a6), .int .i64 (.x a7), .int .i64 (.x a8), .sla 2 2 0 a9]) (fun _ => ⟨rfl, rfl⟩), 6, true, none⟩), (2, ⟨.arg a9 2 (fun i => [.int .i64 (.x (a10 i)), .int .i64 (.x (a11 i))]) (fun _ => ⟨rfl, rfl⟩), 2, true, none⟩), (3, ⟨.arg 1 2 (fun i => [.int .i64 (.x a12), .int .i64 (.x a13)]) (fun _ => ⟨rfl, rfl⟩), 2, true, none⟩)]
  args := [.int .i64 (.x a0), .bool (.x a1), .ptr (some (0, 0)), .ptr (some (1, 0)), .ptr (some (3, 0))]
  res := (Try.f54).results.toList
  path := fun a => match a with
   | .n0 p0 p1 => [1, 1, 1, 0, 1, 0]
  pd := fun a => match a with
   | .n0 p0 p1 => ⟨[(0, .int .i64 (.x a0)), (1, .bool (.x a1)), (3, .ptr (some (1, 0))), (4, .ptr (some (3, 0))), (8, .fn (.func 55) [] []), (9, .int .i64 (.x p0)), (10, .int .i64 (.x p1))], [], 4, []⟩
  D0 := denD0 a0 a1 a2 a3 a4 a5 a6 a7 a8 a9 a10 a11 a12 a13
  D := denD a0 a1 a2 a3 a4 a5 a6 a7 a8 a9 a10 a11 a12 a13
  rc := (fun v => .bool (.x v))
  rh := (fun v => [])
  rn := (fun v => 4)
  rx := (fun v => [])
  rgo := (fun _ => none)


theorem denstart (a0 : Int) (a1 : Bool) (a2 : Int) (a3 : Int) (a4 : Bool) (a5 : Int) (a6 : Int) (a7 : Int) (a8 : Int) (a9 : Nat) (a10 : Nat → Int) (a11 : Nat → Int) (a12 : Int) (a13 : Int) : AF.edgeOk (denA a0 a1 a2 a3 a4 a5 a6 a7 a8 a9 a10 a11 a12 a13) (ctxOf Try.prog memo0) (denD0 a0 a1 a2 a3 a4 a5 a6 a7 a8 a9 a10 a11 a12 a13) (AF.run0 (denA a0 a1 a2 a3 a4 a5 a6 a7 a8 a9 a10 a11 a12 a13) (ctxOf Try.prog memo0)) := by unfold AF.edgeOk; kernel_rfl

theorem dennode0 (a0 : Int) (a1 : Bool) (a2 : Int) (a3 : Int) (a4 : Bool) (a5 : Int) (a6 : Int) (a7 : Int) (a8 : Int) (a9 : Nat) (a10 : Nat → Int) (a11 : Nat → Int) (a12 : Int) (a13 : Int) (p0 : Int) (p1 : Int) : AF.edgeOk (denA a0 a1 a2 a3 a4 a5 a6 a7 a8 a9 a10 a11 a12 a13) (ctxOf Try.prog memo0) (denD a0 a1 a2 a3 a4 a5 a6 a7 a8 a9 a10 a11 a12 a13 (.n0 p0 p1)) (AF.runN (denA a0 a1 a2 a3 a4 a5 a6 a7 a8 a9 a10 a11 a12 a13) (ctxOf Try.prog memo0) (.n0 p0 p1)) := by unfold AF.edgeOk; kernel_rfl

theorem denok (a0 : Int) (a1 : Bool) (a2 : Int) (a3 : Int) (a4 : Bool) (a5 : Int) (a6 : Int) (a7 : Int) (a8 : Int) (a9 : Nat) (a10 : Nat → Int) (a11 : Nat → Int) (a12 : Int) (a13 : Int) : (denA a0 a1 a2 a3 a4 a5 a6 a7 a8 a9 a10 a11 a12 a13).Ok Try.prog (ctxOf Try.prog memo0) where
  regs := by kernel_rfl
  h0 := by kernel_rfl
  start := denstart a0 a1 a2 a3 a4 a5 a6 a7 a8 a9 a10 a11 a12 a13
  node := fun a _ => match a with
   | .n0 p0 p1 => dennode0 a0 a1 a2 a3 a4 a5 a6 a7 a8 a9 a10 a11 a12 a13 p0 p1
  pd := fun a => match a with
   | .n0 p0 p1 => ⟨(fa_cons rfl (fa_cons rfl (fa_cons rfl (fa_cons rfl (fa_cons rfl (fa_cons rfl (fa_cons rfl fa_nil))))))), fa_nil, fa_nil, rfl⟩
  le := fun a => match a with
   | .n0 p0 p1 => Nat.le_of_ble_eq_true rfl
  rd := fun v => ⟨⟨fa_nil, fa_nil, fa_nil, rfl⟩, rfl⟩
  wb := rfl


theorem denhR {ρ : Env} (a0 : Int) (a1 : Bool) (a2 : Int) (a3 : Int) (a4 : Bool) (a5 : Int) (a6 : Int) (a7 : Int) (a8 : Int) (a9 : Nat) (a10 : Nat → Int) (a11 : Nat → Int) (a12 : Int) (a13 : Int) (hM : MemoOk Try.prog (ctxOf Try.prog memo0) ρ) : ∀ X a q n D, FxOk ρ X → X.base = (denA a0 a1 a2 a3 a4 a5 a6 a7 a8 a9 a10 a11 a12 a13).base → X.nt = (denA a0 a1 a2 a3 a4 a5 a6 a7 a8 a9 a10 a11 a12 a13).nt → X.W = (denA a0 a1 a2 a3 a4 a5 a6 a7 a8 a9 a10 a11 a12 a13).W → (denA a0 a1 a2 a3 a4 a5 a6 a7 a8 a9 a10 a11 a12 a13).rgo a = some q → q n = some D → (denA a0 a1 a2 a3 a4 a5 a6 a7 a8 a9 a10 a11 a12 a13).RangeOk Try.prog ρ X a D := AF.noRange rfl

theorem denctr {ρ : Env} (a0 : Int) (a1 : Bool) (a2 : Int) (a3 : Int) (a4 : Bool) (a5 : Int) (a6 : Int) (a7 : Int) (a8 : Int) (a9 : Nat) (a10 : Nat → Int) (a11 : Nat → Int) (a12 : Int) (a13 : Int) {n : Nat} {v : denR} (hM : MemoOk Try.prog (ctxOf Try.prog memo0) ρ) (hv : (denA a0 a1 a2 a3 a4 a5 a6 a7 a8 a9 a10 a11 a12 a13).run n = some v) :
    Ctr Try.prog ρ 54 (denA a0 a1 a2 a3 a4 a5 a6 a7 a8 a9 a10 a11 a12 a13).args (denA a0 a1 a2 a3 a4 a5 a6 a7 a8 a9 a10 a11 a12 a13).H0 (denA a0 a1 a2 a3 a4 a5 a6 a7 a8 a9 a10 a11 a12 a13).base (denA a0 a1 a2 a3 a4 a5 a6 a7 a8 a9 a10 a11 a12 a13).W ((denA a0 a1 a2 a3 a4 a5 a6 a7 a8 a9 a10 a11 a12 a13).rc v) (putH (denA a0 a1 a2 a3 a4 a5 a6 a7 a8 a9 a10 a11 a12 a13).H0 ((denA a0 a1 a2 a3 a4 a5 a6 a7 a8 a9 a10 a11 a12 a13).rh v ++ (denA a0 a1 a2 a3 a4 a5 a6 a7 a8 a9 a10 a11 a12 a13).rx v)) ((denA a0 a1 a2 a3 a4 a5 a6 a7 a8 a9 a10 a11 a12 a13).rn v) :=
  AF.ctr try_ok hM (denok a0 a1 a2 a3 a4 a5 a6 a7 a8 a9 a10 a11 a12 a13) (fn := Try.f54) Try.func54 rfl rfl (Nat.le_of_ble_eq_true rfl) rfl (denhR a0 a1 a2 a3 a4 a5 a6 a7 a8 a9 a10 a11 a12 a13 hM) hv


theorem denmem {ρ : Env} : MemoOk Try.prog (ctxOf Try.prog memo0) ρ := memo0_ok


abbrev denP : List AB := [.int .i64, .bool, .box [.int .i64, .int .i64], .box [.bool, .int .i64, .int .i64, .int .i64, .int .i64, .rows [some .i64, some .i64]], .box [.int .i64, .int .i64]]

noncomputable def denF (v : AW) : AF denN denR := denA (v.i.getD 0 0) (v.b.getD 0 false) (v.i.getD 1 0) (v.i.getD 2 0) (v.b.getD 1 false) (v.i.getD 3 0) (v.i.getD 4 0) (v.i.getD 5 0) (v.i.getD 6 0) (v.t.getD 0 .none).n ((v.t.getD 0 .none).c 0) ((v.t.getD 0 .none).c 1) (v.i.getD 7 0) (v.i.getD 8 0)

noncomputable def denW : denR → CV := fun v => .bool (.x v)
noncomputable def denH : denR → List (Nat × Blk) := fun v => []



instance : Inhabited denR := ⟨false⟩
theorem denknown {ρ : Env} (hM : MemoOk Try.prog (ctxOf Try.prog memo0) ρ) : KnownF Try.prog ρ 54 denP denF denW denH 4 where
  fn := ⟨Try.f54, Try.func54, rfl⟩
  le := Nat.le_of_ble_eq_true rfl
  full := fun r => rfl
  rg := fun r => rfl
  hg := fun r => fa_nil
  ctr := fun v n r h => denctr (v.i.getD 0 0) (v.b.getD 0 false) (v.i.getD 1 0) (v.i.getD 2 0) (v.b.getD 1 false) (v.i.getD 3 0) (v.i.getD 4 0) (v.i.getD 5 0) (v.i.getD 6 0) (v.t.getD 0 .none).n ((v.t.getD 0 .none).c 0) ((v.t.getD 0 .none).c 1) (v.i.getD 7 0) (v.i.getD 8 0) hM h

end Go.Proofs.Ytlmoamafkjplbaa.Cx

/- DieLearned: the closure that goes through pieces at one end; what it says of what Looks says. -/
namespace Go.Proofs.Ytlmoamafkjplbaa.Cx
set_option linter.unusedVariables false
set_option linter.unusedSimpArgs false
set_option maxRecDepth 100000
set_option maxHeartbeats 4000000
open Go Go.RowKit

/-- Where the piece k is, at one end. -/
def endP (up b : Bool) (s1 s2 c1 c2 wl wh k : Int) : Int := bif up then s2 + c2 + gH b (k * wl) (k * wh) else s1 + c1 + gL b (k * wl) (k * wh)
theorem endP_zero {up b : Bool} {s1 s2 c1 c2 wl wh : Int} : endP up b s1 s2 c1 c2 wl wh 0 = bif up then s2 + c2 else s1 + c1 := by
  unfold endP gH gL; rw [Int.zero_mul, Int.zero_mul]; cases up <;> cases b <;> simp
theorem endP_next {up b : Bool} {s1 s2 c1 c2 wl wh k : Int} : endP up b s1 s2 c1 c2 wl wh (k + 1) = bif b then endP up b s1 s2 c1 c2 wl wh k - (bif up then wl else wh) else endP up b s1 s2 c1 c2 wl wh k + (bif up then wh else wl) := by
  have n1 : (k + 1) * wl = k * wl + wl := by rw [Int.add_mul, Int.one_mul]
  have n2 : (k + 1) * wh = k * wh + wh := by rw [Int.add_mul, Int.one_mul]
  unfold endP gH gL; rw [n1, n2]; cases up <;> cases b <;> simp only [cond_true, cond_false] <;> omega
theorem endP_rng {up b : Bool} {s1 s2 c1 c2 wl wh k : Int} (h1 : BB s1) (h2 : BB s2) (h3 : BB c1) (h4 : BB c2) (hw : 0 ≤ wl ∧ wl ≤ wh ∧ wh ≤ 100000) (hk : 0 ≤ k ∧ k ≤ 1000000) : -3000000000000 ≤ endP up b s1 s2 c1 c2 wl wh k ∧ endP up b s1 s2 c1 c2 wl wh k ≤ 3000000000000 := by
  have m1 := wear_bd (n := k) (w := wl) hk (by omega)
  have m2 := wear_bd (n := k) (w := wh) hk (by omega)
  unfold BB at *
  unfold endP gH gL; cases up <;> cases b <;> simp only [cond_true, cond_false] <;> omega

section
variable {a0 : Int} {a1 : Bool} {a2 a3 : Int} {a4 : Bool} {a5 a6 a7 a8 : Int} {a9 : Nat} {a10 a11 : Nat → Int} {a12 a13 : Int}
theorem den_val (hn : a0 ≤ 10000) (h9 : 0 < a9) (hw : 0 ≤ a10 0 ∧ a10 0 ≤ a11 0 ∧ a11 0 ≤ 100000) (h2 : BB a2) (h3 : BB a3) (h7 : BB a7) (h8 : BB a8) :
    AF.fin (denA a0 a1 a2 a3 a4 a5 a6 a7 a8 a9 a10 a11 a12 a13) = true ∧ (AF.val (denA a0 a1 a2 a3 a4 a5 a6 a7 a8 a9 a10 a11 a12 a13) = true ↔ ∀ k, 0 ≤ k → k < a0 → a12 ≤ endP a1 a4 a2 a3 a7 a8 (a10 0) (a11 0) k ∧ endP a1 a4 a2 a3 a7 a8 (a10 0) (a11 0) k ≤ a13) := by
  refine AF.val_sat (E := fun v => v = true ↔ ∀ k, 0 ≤ k → k < a0 → a12 ≤ endP a1 a4 a2 a3 a7 a8 (a10 0) (a11 0) k ∧ endP a1 a4 a2 a3 a7 a8 (a10 0) (a11 0) k ≤ a13)
    (Inv := fun b => match b with | .n0 p0 p1 => 0 ≤ p1 ∧ p1 ≤ 10000 ∧ p0 = endP a1 a4 a2 a3 a7 a8 (a10 0) (a11 0) p1 ∧ ∀ k, 0 ≤ k → k < p1 → a12 ≤ endP a1 a4 a2 a3 a7 a8 (a10 0) (a11 0) k ∧ endP a1 a4 a2 a3 a7 a8 (a10 0) (a11 0) k ≤ a13)
    (fun b => match b with | .n0 p0 p1 => (10000 - p1).toNat) (fun _ => rfl) (fun a hI => ?_) ?_
  · cases a with
    | n0 p0 p1 =>
      obtain ⟨g0, g1, g2, g3⟩ := hI
      show DD.sat _ _ (denD a0 a1 a2 a3 a4 a5 a6 a7 a8 a9 a10 a11 a12 a13 (.n0 p0 p1))
      unfold denD
      have hr := endP_rng (up := a1) (b := a4) (k := p1) h2 h3 h7 h8 hw (by omega)
      have nx := endP_next (up := a1) (b := a4) (s1 := a2) (s2 := a3) (c1 := a7) (c2 := a8) (wl := a10 0) (wh := a11 0) (k := p1)
      rw [← g2] at hr nx
      have ea : Ar.run .add .i64 p1 1 = p1 + 1 := arAdd (by omega)
      have step : a12 ≤ p0 → p0 ≤ a13 → p1 < a0 → ∀ q, q = endP a1 a4 a2 a3 a7 a8 (a10 0) (a11 0) (p1 + 1) → (0 ≤ p1 + 1 ∧ p1 + 1 ≤ 10000 ∧ q = endP a1 a4 a2 a3 a7 a8 (a10 0) (a11 0) (p1 + 1) ∧ ∀ k, 0 ≤ k → k < p1 + 1 → a12 ≤ endP a1 a4 a2 a3 a7 a8 (a10 0) (a11 0) k ∧ endP a1 a4 a2 a3 a7 a8 (a10 0) (a11 0) k ≤ a13) ∧ (10000 - (p1 + 1)).toNat < (10000 - p1).toNat := fun b1 b2 b3 q hq => by
        refine ⟨⟨by omega, by omega, hq, fun k k0 k1 => ?_⟩, by omega⟩
        by_cases he : k < p1
        · exact g3 k k0 he
        · obtain rfl : k = p1 := by omega
          rw [← g2]; exact ⟨b1, b2⟩
      have bad : p1 < a0 → ¬ (a12 ≤ p0 ∧ p0 ≤ a13) → (false = true ↔ ∀ k, 0 ≤ k → k < a0 → a12 ≤ endP a1 a4 a2 a3 a7 a8 (a10 0) (a11 0) k ∧ endP a1 a4 a2 a3 a7 a8 (a10 0) (a11 0) k ≤ a13) := fun b3 hx => by
        refine ⟨fun h => (by cases h), fun h => ?_⟩
        have := h p1 g0 b3
        rw [← g2] at this
        exact absurd this hx
      simp only [DD.sat, Nat.zero_add, Int.toNat_zero, cmLss, cmLssF, cmGtr, cmGtrF, decide_eq_true_eq, ea]
      refine ⟨fun b3 => ⟨fun c1 => bad b3 (by omega), fun c1 => ⟨fun c2 => bad b3 (by omega), fun c2 => ⟨trivial, by omega, h9, ?_⟩⟩⟩, fun b3 => ⟨fun _ k k0 k1 => g3 k k0 (by omega), fun _ => trivial⟩⟩
      have st := step c1 c2 b3
      have e1 : Ar.run .sub .i64 p0 (a10 0) = p0 - a10 0 := arSub (by omega)
      have e2 : Ar.run .add .i64 p0 (a10 0) = p0 + a10 0 := arAdd (by omega)
      have e3 : Ar.run .sub .i64 p0 (a11 0) = p0 - a11 0 := arSub (by omega)
      have e4 : Ar.run .add .i64 p0 (a11 0) = p0 + a11 0 := arAdd (by omega)
      rw [e1, e2, e3, e4]
      generalize endP a1 a4 a2 a3 a7 a8 (a10 0) (a11 0) (p1 + 1) = nxt at nx st
      cases a1 <;> cases a4 <;> simp only [cond_true, cond_false] at nx
      all_goals
        refine ⟨fun x => ?_, fun x => ?_⟩
        all_goals first | (cases x; done) | refine ⟨fun y => ?_, fun y => ?_⟩
        all_goals first | (cases y; done) | refine ⟨fun z => ?_, fun z => ?_⟩
        all_goals first | (cases z; done) | exact st _ nx.symm
  · show DD.sat _ _ (denD0 a0 a1 a2 a3 a4 a5 a6 a7 a8 a9 a10 a11 a12 a13)
    unfold denD0
    unfold BB at *
    have z := endP_zero (up := a1) (b := a4) (s1 := a2) (s2 := a3) (c1 := a7) (c2 := a8) (wl := a10 0) (wh := a11 0)
    simp only [DD.sat]
    have f : ∀ q, q = endP a1 a4 a2 a3 a7 a8 (a10 0) (a11 0) 0 → 0 ≤ (0 : Int) ∧ (0 : Int) ≤ 10000 ∧ q = endP a1 a4 a2 a3 a7 a8 (a10 0) (a11 0) 0 ∧ ∀ k, 0 ≤ k → k < 0 → a12 ≤ endP a1 a4 a2 a3 a7 a8 (a10 0) (a11 0) k ∧ endP a1 a4 a2 a3 a7 a8 (a10 0) (a11 0) k ≤ a13 := fun q hq => ⟨by omega, by omega, hq, fun k k0 k1 => by omega⟩
    have e1 : Ar.run .add .i64 a3 a8 = a3 + a8 := arAdd (by omega)
    have e2 : Ar.run .add .i64 a2 a7 = a2 + a7 := arAdd (by omega)
    rw [e1, e2]
    cases a1
    · exact ⟨fun x => (by cases x), fun _ => ⟨fun x => (by cases x), fun _ => f _ z.symm⟩⟩
    · exact ⟨fun _ => ⟨fun _ => f _ z.symm, fun x => (by cases x)⟩, fun x => (by cases x)⟩
end

theorem psure_ends {b : Bool} {s1 s2 c1 c2 zl zh wl wh k : Int} (hw : 0 ≤ wl ∧ wl ≤ wh) (hs : s1 ≤ s2) (hc : c1 ≤ c2) (hk : 0 ≤ k) : PSure b s1 s2 c1 c2 zl zh wl wh k ↔ (zl ≤ endP true b s1 s2 c1 c2 wl wh k ∧ endP true b s1 s2 c1 c2 wl wh k ≤ zh) ∧ (zl ≤ endP false b s1 s2 c1 c2 wl wh k ∧ endP false b s1 s2 c1 c2 wl wh k ≤ zh) := by
  have m : k * wl ≤ k * wh := Int.mul_le_mul_of_nonneg_left hw.2 hk
  unfold PSure endP gL gH
  cases b <;> simp only [cond_true, cond_false] <;> omega
end Go.Proofs.Ytlmoamafkjplbaa.Cx

/- (acme/acmelaw07.Shop).tool as an automaton. Made by tools/cxauto.py. -/
namespace Go.Proofs.Ytlmoamafkjplbaa.Cx
set_option linter.unusedVariables false
set_option linter.unusedSimpArgs false
set_option maxRecDepth 100000
open Go Go.Proofs Go.RowKit

noncomputable abbrev dtoCode : Code := funcCode Try.f48


inductive dtoN where
  | n0
  | n1 (p0 : Int) (p1 : Nat) (p2 : Nat → Int) (p3 : Nat → Int)

inductive dtoR where
  | r0 (p0 : Bool) (p1 : Int) (p2 : Int) (p3 : Int) (p4 : Int)
  | r1 (p0 : Bool) (p1 : Int) (p2 : Int) (p3 : Int) (p4 : Int) (p5 : Nat) (p6 : Nat → Int) (p7 : Nat → Int)

noncomputable def dtoD0 (a0 : Bool) (a1 : Int) (a2 : Int) (a3 : Nat) (a4 : Nat → Int) (a5 : Nat → Int) (a6 : Nat) (a7 : Nat → Int) (a8 : Nat → Int) (a9 : Nat → Int) (a10 : Nat → Int) (a11 : Nat) (a12 : Nat → Int) : DD (Lf dtoN dtoR) :=
 .leaf (.next (.n0) [3, 4, 7])

noncomputable def dtoD (a0 : Bool) (a1 : Int) (a2 : Int) (a3 : Nat) (a4 : Nat → Int) (a5 : Nat → Int) (a6 : Nat) (a7 : Nat → Int) (a8 : Nat → Int) (a9 : Nat → Int) (a10 : Nat → Int) (a11 : Nat) (a12 : Nat → Int) : dtoN → DD (Lf dtoN dtoR)
 | .n0 =>
 .ask (true)
   (.ask (Cm.run Cm.lss 0 (↑a3 : Int))
   (.must (true)
   (.must (decide (0 < (↑a3 : Int)))
   (.must (decide (0 + Int.toNat 0 < a3))
   (.leaf (.next (.n1 1 1 (fun i => Ar.run Ar.rem IntKind.i64 (Ar.run Ar.conv IntKind.i64 (a4 (0 + Int.toNat 0)) 0) 20) (fun i => Ar.run Ar.add IntKind.i64 (Ar.run Ar.rem IntKind.i64 (Ar.run Ar.conv IntKind.i64 (a4 (0 + Int.toNat 0)) 0) 20) (Ar.run Ar.rem IntKind.i64 (Ar.run Ar.conv IntKind.i64 (a5 (0 + Int.toNat 0)) 0) 20))) [3, 4, 5, 9])))))
   (.leaf (.next (.n1 1 1 (fun i => 0) (fun i => 0)) [3, 4, 5, 9])))
   (.ask (Cm.run Cm.lss 0 (↑a3 : Int))
   (.ask (true)
   (.ask (Cm.run Cm.lss 0 (↑a3 : Int))
   (.must (true)
   (.must (decide (0 < (↑a3 : Int)))
   (.must (decide (0 + Int.toNat 0 < a3))
   (.leaf (.next (.n1 1 1 (fun i => Ar.run Ar.rem IntKind.i64 (Ar.run Ar.conv IntKind.i64 (a4 (0 + Int.toNat 0)) 0) 20) (fun i => Ar.run Ar.add IntKind.i64 (Ar.run Ar.rem IntKind.i64 (Ar.run Ar.conv IntKind.i64 (a4 (0 + Int.toNat 0)) 0) 20) (Ar.run Ar.rem IntKind.i64 (Ar.run Ar.conv IntKind.i64 (a5 (0 + Int.toNat 0)) 0) 20))) [3, 4, 5, 9])))))
   (.leaf (.next (.n1 1 1 (fun i => 0) (fun i => 0)) [3, 4, 5, 9])))
   (.leaf (.done (.r0 a0 (Ar.run Ar.rem IntKind.i64 (Ar.run Ar.sub IntKind.i64 0 (Ar.run Ar.conv IntKind.i64 a1 0)) 20) (Ar.run Ar.quo IntKind.i64 (Ar.run Ar.conv IntKind.i64 a1 0) 16) (Ar.run Ar.rem IntKind.i64 (Ar.run Ar.sub IntKind.i64 0 (Ar.run Ar.conv IntKind.i64 a2 0)) 10) (Ar.run Ar.quo IntKind.i64 (Ar.run Ar.conv IntKind.i64 a2 0) 32)) [])))
   (.leaf (.done (.r0 a0 (Ar.run Ar.rem IntKind.i64 (Ar.run Ar.sub IntKind.i64 0 (Ar.run Ar.conv IntKind.i64 a1 0)) 20) (Ar.run Ar.quo IntKind.i64 (Ar.run Ar.conv IntKind.i64 a1 0) 16) (Ar.run Ar.rem IntKind.i64 (Ar.run Ar.sub IntKind.i64 0 (Ar.run Ar.conv IntKind.i64 a2 0)) 10) (Ar.run Ar.quo IntKind.i64 (Ar.run Ar.conv IntKind.i64 a2 0) 32)) [])))
 | .n1 p0 p1 p2 p3 =>
 .ask (Cm.run Cm.eql p0 0)
   (.ask (Cm.run Cm.lss p0 (↑a3 : Int))
   (.must (decide (0 ≤ p0))
   (.must (decide (p0 < (↑a3 : Int)))
   (.must (decide (0 + Int.toNat p0 < a3))
   (.must (decide (0 + p1 ≤ p1))
   (.must (decide (p1 + 1 ≤ 10000))
   (.leaf (.next (.n1 (Ar.run Ar.add IntKind.i64 p0 1) (p1 + 1) (fun i => bif Nat.blt i p1 then p2 (0 + i) else Ar.run Ar.rem IntKind.i64 (Ar.run Ar.conv IntKind.i64 (a4 (0 + Int.toNat p0)) 0) 20) (fun i => bif Nat.blt i p1 then p3 (0 + i) else Ar.run Ar.add IntKind.i64 (Ar.run Ar.rem IntKind.i64 (Ar.run Ar.conv IntKind.i64 (a4 (0 + Int.toNat p0)) 0) 20) (Ar.run Ar.rem IntKind.i64 (Ar.run Ar.conv IntKind.i64 (a5 (0 + Int.toNat p0)) 0) 20))) [3, 4, 5, 10])))))))
   (.must (decide (0 + p1 ≤ p1))
   (.must (decide (p1 + 1 ≤ 10000))
   (.leaf (.next (.n1 (Ar.run Ar.add IntKind.i64 p0 1) (p1 + 1) (fun i => bif Nat.blt i p1 then p2 (0 + i) else 0) (fun i => bif Nat.blt i p1 then p3 (0 + i) else 0)) [3, 4, 5, 10])))))
   (.ask (Cm.run Cm.lss p0 (↑a3 : Int))
   (.ask (Cm.run Cm.lss p0 3)
   (.ask (Cm.run Cm.lss p0 (↑a3 : Int))
   (.must (decide (0 ≤ p0))
   (.must (decide (p0 < (↑a3 : Int)))
   (.must (decide (0 + Int.toNat p0 < a3))
   (.must (decide (0 + p1 ≤ p1))
   (.must (decide (p1 + 1 ≤ 10000))
   (.leaf (.next (.n1 (Ar.run Ar.add IntKind.i64 p0 1) (p1 + 1) (fun i => bif Nat.blt i p1 then p2 (0 + i) else Ar.run Ar.rem IntKind.i64 (Ar.run Ar.conv IntKind.i64 (a4 (0 + Int.toNat p0)) 0) 20) (fun i => bif Nat.blt i p1 then p3 (0 + i) else Ar.run Ar.add IntKind.i64 (Ar.run Ar.rem IntKind.i64 (Ar.run Ar.conv IntKind.i64 (a4 (0 + Int.toNat p0)) 0) 20) (Ar.run Ar.rem IntKind.i64 (Ar.run Ar.conv IntKind.i64 (a5 (0 + Int.toNat p0)) 0) 20))) [3, 4, 5, 10])))))))
   (.must (decide (0 + p1 ≤ p1))
   (.must (decide (p1 + 1 ≤ 10000))
   (.leaf (.next (.n1 (Ar.run Ar.add IntKind.i64 p0 1) (p1 + 1) (fun i => bif Nat.blt i p1 then p2 (0 + i) else 0) (fun i => bif Nat.blt i p1 then p3 (0 + i) else 0)) [3, 4, 5, 10])))))
   (.leaf (.done (.r1 a0 (Ar.run Ar.rem IntKind.i64 (Ar.run Ar.sub IntKind.i64 0 (Ar.run Ar.conv IntKind.i64 a1 0)) 20) (Ar.run Ar.quo IntKind.i64 (Ar.run Ar.conv IntKind.i64 a1 0) 16) (Ar.run Ar.rem IntKind.i64 (Ar.run Ar.sub IntKind.i64 0 (Ar.run Ar.conv IntKind.i64 a2 0)) 10) (Ar.run Ar.quo IntKind.i64 (Ar.run Ar.conv IntKind.i64 a2 0) 32) p1 (fun i => p2 i) (fun i => p3 i)) [6])))
   (.leaf (.done (.r1 a0 (Ar.run Ar.rem IntKind.i64 (Ar.run Ar.sub IntKind.i64 0 (Ar.run Ar.conv IntKind.i64 a1 0)) 20) (Ar.run Ar.quo IntKind.i64 (Ar.run Ar.conv IntKind.i64 a1 0) 16) (Ar.run Ar.rem IntKind.i64 (Ar.run Ar.sub IntKind.i64 0 (Ar.run Ar.conv IntKind.i64 a2 0)) 10) (Ar.run Ar.quo IntKind.i64 (Ar.run Ar.conv IntKind.i64 a2 0) 32) p1 (fun i => p2 i) (fun i => p3 i)) [6])))

noncomputable def dtoA (a0 : Bool) (a1 : Int) (a2 : Int) (a3 : Nat) (a4 : Nat → Int) (a5 : Nat → Int) (a6 : Nat) (a7 : Nat → Int) (a8 : Nat → Int) (a9 : Nat → Int) (a10 : Nat → Int) (a11 : Nat) (a12 : Nat → Int) : AF dtoN dtoR where
  code := dtoCode
  base := 3
  nt := 79
  m := 400
  un := []
  W := []
  h0 := [(0, ⟨.arg a3 2 (fun i => [.int .u8 (.x (a4 i)), .int .u8 (.x (a5 i))]) (fun _ => ⟨rfl, rfl⟩), 2, true, none⟩), (1, ⟨.arg a6 4 (fun i => [.int .u8 (.x (a7 i)), .int .u8 (.x (a8 i)), .int .u8 (.x (a9 i)), .int .u8 (.x (a10 i))]) (fun _ => ⟨rfl, rfl⟩), 4, true, none⟩), (2, ⟨.arg a11 1 (fun i => [.int .u8 (.x (a12 i))]) (fun _ => ⟨rfl, rfl⟩), 1, true, none⟩)]
  args := [.agg [.bool (.x a0), .int .u8 (.x a1), .int .u8 (.x a2), .sla 0 2 0 a3, .sla 1 4 0 a6, .sla 2 1 0 a11]]
  res := (Try.f48).results.toList
  path := fun a => match a with
   | .n0 => [1, 1, 0, 1, 0]
   | .n1 p0 p1 p2 p3 => [1, 1, 0, 1, 0]
  pd := fun a => match a with
   | .n0 => ⟨[(1, .ptr (some (3, 0))), (2, .ptr (some (4, 0))), (3, .ptr (some (5, 0))), (4, .int .i64 (.x 0)), (26, .ptr (some (3, 1)))], [(3, ⟨.lit [.bool (.x a0), .int .u8 (.x a1), .int .u8 (.x a2), .sla 0 2 0 a3, .sla 1 4 0 a6, .sla 2 1 0 a11], 0, true, none⟩), (4, ⟨.lit [.bool (.x false), .int .i64 (.x 0), .int .i64 (.x 0), .int .i64 (.x 0), .int .i64 (.x 0), .slc none 0 0], 0, true, none⟩), (5, ⟨.lit [.bool (.x a0), .int .i64 (.x (Ar.run Ar.rem IntKind.i64 (Ar.run Ar.sub IntKind.i64 0 (Ar.run Ar.conv IntKind.i64 a1 0)) 20)), .int .i64 (.x (Ar.run Ar.quo IntKind.i64 (Ar.run Ar.conv IntKind.i64 a1 0) 16)), .int .i64 (.x (Ar.run Ar.rem IntKind.i64 (Ar.run Ar.sub IntKind.i64 0 (Ar.run Ar.conv IntKind.i64 a2 0)) 10)), .int .i64 (.x (Ar.run Ar.quo IntKind.i64 (Ar.run Ar.conv IntKind.i64 a2 0) 32)), .slc none 0 0], 0, true, none⟩)], 6, []⟩
   | .n1 p0 p1 p2 p3 => ⟨[(1, .ptr (some (3, 0))), (2, .ptr (some (4, 0))), (3, .ptr (some (5, 0))), (4, .int .i64 (.x p0)), (26, .ptr (some (3, 1)))], [(3, ⟨.lit [.bool (.x a0), .int .u8 (.x a1), .int .u8 (.x a2), .sla 0 2 0 a3, .sla 1 4 0 a6, .sla 2 1 0 a11], 0, true, none⟩), (4, ⟨.lit [.bool (.x false), .int .i64 (.x 0), .int .i64 (.x 0), .int .i64 (.x 0), .int .i64 (.x 0), .slc none 0 0], 0, true, none⟩), (5, ⟨.lit [.bool (.x a0), .int .i64 (.x (Ar.run Ar.rem IntKind.i64 (Ar.run Ar.sub IntKind.i64 0 (Ar.run Ar.conv IntKind.i64 a1 0)) 20)), .int .i64 (.x (Ar.run Ar.quo IntKind.i64 (Ar.run Ar.conv IntKind.i64 a1 0) 16)), .int .i64 (.x (Ar.run Ar.rem IntKind.i64 (Ar.run Ar.sub IntKind.i64 0 (Ar.run Ar.conv IntKind.i64 a2 0)) 10)), .int .i64 (.x (Ar.run Ar.quo IntKind.i64 (Ar.run Ar.conv IntKind.i64 a2 0) 32)), .slx 6 2 0 p1 p1], 0, true, none⟩), (6, ⟨.rows p1 2 (fun i => [.int .i64 (.x (p2 i)), .int .i64 (.x (p3 i))]) (fun _ => ⟨rfl, rfl⟩), 2, true, none⟩)], 7, []⟩
  D0 := dtoD0 a0 a1 a2 a3 a4 a5 a6 a7 a8 a9 a10 a11 a12
  D := dtoD a0 a1 a2 a3 a4 a5 a6 a7 a8 a9 a10 a11 a12
  rc := (fun v => match v with
 | .r0 p0 p1 p2 p3 p4 => .agg [.bool (.x p0), .int .i64 (.x p1), .int .i64 (.x p2), .int .i64 (.x p3), .int .i64 (.x p4), .slc none 0 0]
 | .r1 p0 p1 p2 p3 p4 p5 p6 p7 => .agg [.bool (.x p0), .int .i64 (.x p1), .int .i64 (.x p2), .int .i64 (.x p3), .int .i64 (.x p4), .slx 3 2 0 p5 p5])
  rh := (fun v => match v with
 | .r0 p0 p1 p2 p3 p4 => []
 | .r1 p0 p1 p2 p3 p4 p5 p6 p7 => [(3, ⟨.rows p5 2 (fun i => [.int .i64 (.x (p6 i)), .int .i64 (.x (p7 i))]) (fun _ => ⟨rfl, rfl⟩), 2, true, none⟩)])
  rn := (fun v => match v with
 | .r0 p0 p1 p2 p3 p4 => 3
 | .r1 p0 p1 p2 p3 p4 p5 p6 p7 => 4)
  rx := (fun v => match v with
 | .r0 p0 p1 p2 p3 p4 => []
 | .r1 p0 p1 p2 p3 p4 p5 p6 p7 => [])
  rgo := (fun _ => none)


theorem dtostart (a0 : Bool) (a1 : Int) (a2 : Int) (a3 : Nat) (a4 : Nat → Int) (a5 : Nat → Int) (a6 : Nat) (a7 : Nat → Int) (a8 : Nat → Int) (a9 : Nat → Int) (a10 : Nat → Int) (a11 : Nat) (a12 : Nat → Int) : AF.edgeOk (dtoA a0 a1 a2 a3 a4 a5 a6 a7 a8 a9 a10 a11 a12) (ctxOf Try.prog memo0) (dtoD0 a0 a1 a2 a3 a4 a5 a6 a7 a8 a9 a10 a11 a12) (AF.run0 (dtoA a0 a1 a2 a3 a4 a5 a6 a7 a8 a9 a10 a11 a12) (ctxOf Try.prog memo0)) := by unfold AF.edgeOk; kernel_rfl

theorem dtonode0 (a0 : Bool) (a1 : Int) (a2 : Int) (a3 : Nat) (a4 : Nat → Int) (a5 : Nat → Int) (a6 : Nat) (a7 : Nat → Int) (a8 : Nat → Int) (a9 : Nat → Int) (a10 : Nat → Int) (a11 : Nat) (a12 : Nat → Int) : AF.edgeOk (dtoA a0 a1 a2 a3 a4 a5 a6 a7 a8 a9 a10 a11 a12) (ctxOf Try.prog memo0) (dtoD a0 a1 a2 a3 a4 a5 a6 a7 a8 a9 a10 a11 a12 (.n0)) (AF.runN (dtoA a0 a1 a2 a3 a4 a5 a6 a7 a8 a9 a10 a11 a12) (ctxOf Try.prog memo0) (.n0)) := by unfold AF.edgeOk; kernel_rfl

theorem dtonode1 (a0 : Bool) (a1 : Int) (a2 : Int) (a3 : Nat) (a4 : Nat → Int) (a5 : Nat → Int) (a6 : Nat) (a7 : Nat → Int) (a8 : Nat → Int) (a9 : Nat → Int) (a10 : Nat → Int) (a11 : Nat) (a12 : Nat → Int) (p0 : Int) (p1 : Nat) (p2 : Nat → Int) (p3 : Nat → Int) : AF.edgeOk (dtoA a0 a1 a2 a3 a4 a5 a6 a7 a8 a9 a10 a11 a12) (ctxOf Try.prog memo0) (dtoD a0 a1 a2 a3 a4 a5 a6 a7 a8 a9 a10 a11 a12 (.n1 p0 p1 p2 p3)) (AF.runN (dtoA a0 a1 a2 a3 a4 a5 a6 a7 a8 a9 a10 a11 a12) (ctxOf Try.prog memo0) (.n1 p0 p1 p2 p3)) := by unfold AF.edgeOk; kernel_rfl

theorem dtook (a0 : Bool) (a1 : Int) (a2 : Int) (a3 : Nat) (a4 : Nat → Int) (a5 : Nat → Int) (a6 : Nat) (a7 : Nat → Int) (a8 : Nat → Int) (a9 : Nat → Int) (a10 : Nat → Int) (a11 : Nat) (a12 : Nat → Int) : (dtoA a0 a1 a2 a3 a4 a5 a6 a7 a8 a9 a10 a11 a12).Ok Try.prog (ctxOf Try.prog memo0) where
  regs := by kernel_rfl
  h0 := by kernel_rfl
  start := dtostart a0 a1 a2 a3 a4 a5 a6 a7 a8 a9 a10 a11 a12
  node := fun a _ => match a with
   | .n0 => dtonode0 a0 a1 a2 a3 a4 a5 a6 a7 a8 a9 a10 a11 a12
   | .n1 p0 p1 p2 p3 => dtonode1 a0 a1 a2 a3 a4 a5 a6 a7 a8 a9 a10 a11 a12 p0 p1 p2 p3
  pd := fun a => match a with
   | .n0 => ⟨(fa_cons rfl (fa_cons rfl (fa_cons rfl (fa_cons rfl (fa_cons rfl fa_nil))))), (fa_cons ⟨.inl (Nat.le_of_ble_eq_true rfl), rfl, rfl⟩ (fa_cons ⟨.inl (Nat.le_of_ble_eq_true rfl), rfl, rfl⟩ (fa_cons ⟨.inl (Nat.le_of_ble_eq_true rfl), rfl, rfl⟩ fa_nil))), fa_nil, rfl⟩
   | .n1 p0 p1 p2 p3 => ⟨(fa_cons rfl (fa_cons rfl (fa_cons rfl (fa_cons rfl (fa_cons rfl fa_nil))))), (fa_cons ⟨.inl (Nat.le_of_ble_eq_true rfl), rfl, rfl⟩ (fa_cons ⟨.inl (Nat.le_of_ble_eq_true rfl), rfl, rfl⟩ (fa_cons ⟨.inl (Nat.le_of_ble_eq_true rfl), rfl, rfl⟩ (fa_cons ⟨.inl (Nat.le_of_ble_eq_true rfl), (fun _ => rfl), rfl⟩ fa_nil)))), fa_nil, rfl⟩
  le := fun a => match a with
   | .n0 => Nat.le_of_ble_eq_true rfl
   | .n1 p0 p1 p2 p3 => Nat.le_of_ble_eq_true rfl
  rd := fun v => match v with
   | .r0 p0 p1 p2 p3 p4 => ⟨⟨fa_nil, fa_nil, fa_nil, rfl⟩, rfl⟩
   | .r1 p0 p1 p2 p3 p4 p5 p6 p7 => ⟨⟨fa_nil, (fa_cons ⟨.inl (Nat.le_of_ble_eq_true rfl), (fun _ => rfl), rfl⟩ fa_nil), fa_nil, rfl⟩, rfl⟩
  wb := rfl


theorem dtohR {ρ : Env} (a0 : Bool) (a1 : Int) (a2 : Int) (a3 : Nat) (a4 : Nat → Int) (a5 : Nat → Int) (a6 : Nat) (a7 : Nat → Int) (a8 : Nat → Int) (a9 : Nat → Int) (a10 : Nat → Int) (a11 : Nat) (a12 : Nat → Int) (hM : MemoOk Try.prog (ctxOf Try.prog memo0) ρ) : ∀ X a q n D, FxOk ρ X → X.base = (dtoA a0 a1 a2 a3 a4 a5 a6 a7 a8 a9 a10 a11 a12).base → X.nt = (dtoA a0 a1 a2 a3 a4 a5 a6 a7 a8 a9 a10 a11 a12).nt → X.W = (dtoA a0 a1 a2 a3 a4 a5 a6 a7 a8 a9 a10 a11 a12).W → (dtoA a0 a1 a2 a3 a4 a5 a6 a7 a8 a9 a10 a11 a12).rgo a = some q → q n = some D → (dtoA a0 a1 a2 a3 a4 a5 a6 a7 a8 a9 a10 a11 a12).RangeOk Try.prog ρ X a D := AF.noRange rfl

theorem dtoctr {ρ : Env} (a0 : Bool) (a1 : Int) (a2 : Int) (a3 : Nat) (a4 : Nat → Int) (a5 : Nat → Int) (a6 : Nat) (a7 : Nat → Int) (a8 : Nat → Int) (a9 : Nat → Int) (a10 : Nat → Int) (a11 : Nat) (a12 : Nat → Int) {n : Nat} {v : dtoR} (hM : MemoOk Try.prog (ctxOf Try.prog memo0) ρ) (hv : (dtoA a0 a1 a2 a3 a4 a5 a6 a7 a8 a9 a10 a11 a12).run n = some v) :
    Ctr Try.prog ρ 48 (dtoA a0 a1 a2 a3 a4 a5 a6 a7 a8 a9 a10 a11 a12).args (dtoA a0 a1 a2 a3 a4 a5 a6 a7 a8 a9 a10 a11 a12).H0 (dtoA a0 a1 a2 a3 a4 a5 a6 a7 a8 a9 a10 a11 a12).base (dtoA a0 a1 a2 a3 a4 a5 a6 a7 a8 a9 a10 a11 a12).W ((dtoA a0 a1 a2 a3 a4 a5 a6 a7 a8 a9 a10 a11 a12).rc v) (putH (dtoA a0 a1 a2 a3 a4 a5 a6 a7 a8 a9 a10 a11 a12).H0 ((dtoA a0 a1 a2 a3 a4 a5 a6 a7 a8 a9 a10 a11 a12).rh v ++ (dtoA a0 a1 a2 a3 a4 a5 a6 a7 a8 a9 a10 a11 a12).rx v)) ((dtoA a0 a1 a2 a3 a4 a5 a6 a7 a8 a9 a10 a11 a12).rn v) :=
  AF.ctr try_ok hM (dtook a0 a1 a2 a3 a4 a5 a6 a7 a8 a9 a10 a11 a12) (fn := Try.f48) Try.func48 rfl rfl (Nat.le_of_ble_eq_true rfl) rfl (dtohR a0 a1 a2 a3 a4 a5 a6 a7 a8 a9 a10 a11 a12 hM) hv


theorem dtomem {ρ : Env} : MemoOk Try.prog (ctxOf Try.prog memo0) ρ := memo0_ok


abbrev dtoP : List AQ := [.agg [.bool, .int .u8, .int .u8, .rows [some .u8, some .u8], .rows [some .u8, some .u8, some .u8, some .u8], .rows [some .u8]]]

noncomputable def dtoF (v : AW) : AF dtoN dtoR := dtoA (v.b.getD 0 false) (v.i.getD 0 0) (v.i.getD 1 0) (v.t.getD 0 .none).n ((v.t.getD 0 .none).c 0) ((v.t.getD 0 .none).c 1) (v.t.getD 1 .none).n ((v.t.getD 1 .none).c 0) ((v.t.getD 1 .none).c 1) ((v.t.getD 1 .none).c 2) ((v.t.getD 1 .none).c 3) (v.t.getD 2 .none).n ((v.t.getD 2 .none).c 0)

def dtow0 : dtoR → Bool
  | .r0 p0 p1 p2 p3 p4 => p0
  | .r1 p0 p1 p2 p3 p4 p5 p6 p7 => p0

def dtow1 : dtoR → Int
  | .r0 p0 p1 p2 p3 p4 => p1
  | .r1 p0 p1 p2 p3 p4 p5 p6 p7 => p1

def dtow2 : dtoR → Int
  | .r0 p0 p1 p2 p3 p4 => p2
  | .r1 p0 p1 p2 p3 p4 p5 p6 p7 => p2

def dtow3 : dtoR → Int
  | .r0 p0 p1 p2 p3 p4 => p3
  | .r1 p0 p1 p2 p3 p4 p5 p6 p7 => p3

def dtow4 : dtoR → Int
  | .r0 p0 p1 p2 p3 p4 => p4
  | .r1 p0 p1 p2 p3 p4 p5 p6 p7 => p4

def dtow5 : dtoR → Nat
  | .r0 p0 p1 p2 p3 p4 => 0
  | .r1 p0 p1 p2 p3 p4 p5 p6 p7 => p5

def dtow6 : dtoR → (Nat → Int)
  | .r0 p0 p1 p2 p3 p4 => fun _ => 0
  | .r1 p0 p1 p2 p3 p4 p5 p6 p7 => p6

def dtow7 : dtoR → (Nat → Int)
  | .r0 p0 p1 p2 p3 p4 => fun _ => 0
  | .r1 p0 p1 p2 p3 p4 p5 p6 p7 => p7

noncomputable def dtoW : dtoR → CV := fun v => .agg [.bool (.x ((dtow0 v))), .int .i64 (.x ((dtow1 v))), .int .i64 (.x ((dtow2 v))), .int .i64 (.x ((dtow3 v))), .int .i64 (.x ((dtow4 v))), .sla 3 2 0 ((dtow5 v))]
noncomputable def dtoH : dtoR → List (Nat × Blk) := fun v => [(3, ⟨.rows ((dtow5 v)) 2 (fun i => [.int .i64 (.x ((dtow6 v) i)), .int .i64 (.x ((dtow7 v) i))]) (fun _ => ⟨rfl, rfl⟩), 2, true, none⟩)]

instance : Inhabited dtoR := ⟨.r0 false 0 0 0 0⟩
theorem dtoknown {ρ : Env} (hM : MemoOk Try.prog (ctxOf Try.prog memo0) ρ) : KnownS Try.prog ρ 48 dtoP dtoF dtoW dtoH 4 where
  fn := ⟨Try.f48, Try.func48, rfl⟩
  le := Nat.le_of_ble_eq_true rfl
  full := fun r => rfl
  rg := fun r => rfl
  hg := fun r => (fa_cons ⟨fun _ => rfl, rfl⟩ fa_nil)
  ctr := fun v n r h => match r, h with
    | .r0 p0 p1 p2 p3 p4, h => Ctr.weaken (dtoctr (v.b.getD 0 false) (v.i.getD 0 0) (v.i.getD 1 0) (v.t.getD 0 .none).n ((v.t.getD 0 .none).c 0) ((v.t.getD 0 .none).c 1) (v.t.getD 1 .none).n ((v.t.getD 1 .none).c 0) ((v.t.getD 1 .none).c 1) ((v.t.getD 1 .none).c 2) ((v.t.getD 1 .none).c 3) (v.t.getD 2 .none).n ((v.t.getD 2 .none).c 0) hM h) (Nat.le_of_ble_eq_true rfl) (Nat.le_of_ble_eq_true rfl) (fun σ => (fun _ h => VR.agg_imp (VRl.cons_imp (fun _ h => h) (VRl.cons_imp (fun _ h => h) (VRl.cons_imp (fun _ h => h) (VRl.cons_imp (fun _ h => h) (VRl.cons_imp (fun _ h => h) (VRl.cons_imp (fun _ h => h.nil_sla) VRl.nil_imp)))))) h)) (fun b h1 h2 => absurd (Nat.lt_of_le_of_lt h1 h2) (Nat.lt_irrefl _))
    | .r1 p0 p1 p2 p3 p4 p5 p6 p7, h => Ctr.weaken (dtoctr (v.b.getD 0 false) (v.i.getD 0 0) (v.i.getD 1 0) (v.t.getD 0 .none).n ((v.t.getD 0 .none).c 0) ((v.t.getD 0 .none).c 1) (v.t.getD 1 .none).n ((v.t.getD 1 .none).c 0) ((v.t.getD 1 .none).c 1) ((v.t.getD 1 .none).c 2) ((v.t.getD 1 .none).c 3) (v.t.getD 2 .none).n ((v.t.getD 2 .none).c 0) hM h) (Nat.le_of_ble_eq_true rfl) (Nat.le_of_ble_eq_true rfl) (fun σ => (fun _ h => VR.agg_imp (VRl.cons_imp (fun _ h => h) (VRl.cons_imp (fun _ h => h) (VRl.cons_imp (fun _ h => h) (VRl.cons_imp (fun _ h => h) (VRl.cons_imp (fun _ h => h) (VRl.cons_imp (fun _ h => h.as_sla) VRl.nil_imp)))))) h)) (fun b h1 h2 => rfl)

end Go.Proofs.Ytlmoamafkjplbaa.Cx

/- DieLearned: the tool that is made. -/
namespace Go.Proofs.Ytlmoamafkjplbaa.Cx
set_option linter.unusedVariables false
set_option linter.unusedSimpArgs false
set_option maxRecDepth 100000
set_option maxHeartbeats 4000000
open Go Go.RowKit

theorem conv_byte {x : Int} (h : 0 ≤ x ∧ x ≤ 255) : Ar.run .conv .i64 x 0 = x := IntWalk.i64_in _ (by omega)
theorem rem_pos {x k : Int} (h : 0 ≤ x) (hk : 0 < k) : 0 ≤ Ar.run .rem .i64 x k ∧ Ar.run .rem .i64 x k < k ∧ Ar.run .rem .i64 x k ≤ x := by
  show 0 ≤ x.tmod k ∧ x.tmod k < k ∧ x.tmod k ≤ x
  refine ⟨Int.tmod_nonneg _ h, Int.tmod_lt_of_pos _ hk, ?_⟩
  rw [Int.tmod_eq_emod_of_nonneg h]
  have := Int.mul_ediv_add_emod x k
  have h2 : 0 ≤ k * (x / k) := Int.mul_nonneg (by omega) (Int.ediv_nonneg h (by omega))
  omega
theorem rem_neg {x k : Int} (h : 0 ≤ x) (hk : 0 < k) : -k < Ar.run .rem .i64 (0 - x) k ∧ Ar.run .rem .i64 (0 - x) k ≤ 0 := by
  show -k < (0 - x).tmod k ∧ (0 - x).tmod k ≤ 0
  rw [Int.zero_sub, Int.neg_tmod]
  have h1 := Int.tmod_nonneg k h
  have h2 := Int.tmod_lt_of_pos x hk
  omega
theorem quo_byte {x : Int} {k : Int} (h : 0 ≤ x ∧ x ≤ 255) (hk : 1 ≤ k) : 0 ≤ Ar.run .quo .i64 x k ∧ Ar.run .quo .i64 x k ≤ x / k ∧ x / k ≤ Ar.run .quo .i64 x k := by
  have e : x.tdiv k = x / k := Int.tdiv_eq_ediv_of_nonneg h.1
  have h1 : 0 ≤ x / k := Int.ediv_nonneg h.1 (by omega)
  have h2 : x / k ≤ x := Int.ediv_le_self k h.1
  have e2 : Ar.run .quo .i64 x k = x / k := by rw [arQuo (by rw [e]; omega), e]
  rw [e2]
  exact ⟨h1, Int.le_refl _, Int.le_refl _⟩

def RowOk (l h : Int) : Prop := 0 ≤ l ∧ l ≤ h ∧ h ≤ 38
def TlOk : dtoR → Prop
  | .r0 _ _ _ _ _ => False
  | .r1 p0 p1 p2 p3 p4 p5 p6 p7 => (-19 ≤ p1 ∧ p1 ≤ 0) ∧ (0 ≤ p2 ∧ p2 ≤ 15) ∧ (-9 ≤ p3 ∧ p3 ≤ 0) ∧ (0 ≤ p4 ∧ p4 ≤ 7) ∧ (1 ≤ p5 ∧ p5 ≤ 3) ∧ ∀ i : Nat, i < p5 → RowOk (p6 i) (p7 i)

section
variable {a0 : Bool} {a1 a2 : Int} {a3 : Nat} {a4 a5 : Nat → Int} {a6 : Nat} {a7 a8 a9 a10 : Nat → Int} {a11 : Nat} {a12 : Nat → Int}
theorem dto_val (h1 : 0 ≤ a1 ∧ a1 ≤ 255) (h2 : 0 ≤ a2 ∧ a2 ≤ 255) (h4 : ∀ i, 0 ≤ a4 i ∧ a4 i ≤ 255) (h5 : ∀ i, 0 ≤ a5 i ∧ a5 i ≤ 255) : AF.fin (dtoA a0 a1 a2 a3 a4 a5 a6 a7 a8 a9 a10 a11 a12) = true ∧ TlOk (AF.val (dtoA a0 a1 a2 a3 a4 a5 a6 a7 a8 a9 a10 a11 a12)) := by
  have row : ∀ i, RowOk (Ar.run .rem .i64 (Ar.run .conv .i64 (a4 i) 0) 20) (Ar.run .add .i64 (Ar.run .rem .i64 (Ar.run .conv .i64 (a4 i) 0) 20) (Ar.run .rem .i64 (Ar.run .conv .i64 (a5 i) 0) 20)) := fun i => by
    rw [conv_byte (h4 i), conv_byte (h5 i)]
    have r1 := rem_pos (h4 i).1 (show (0 : Int) < 20 by omega)
    have r2 := rem_pos (h5 i).1 (show (0 : Int) < 20 by omega)
    rw [arAdd (by omega)]
    unfold RowOk
    omega
  have zero : RowOk 0 0 := by unfold RowOk; omega
  have ext : ∀ (p : Nat) (c d : Nat → Int) (x y : Int), (∀ i : Nat, i < p → RowOk (c i) (d i)) → RowOk x y → ∀ i : Nat, i < p + 1 → RowOk (bif Nat.blt i p then c i else x) (bif Nat.blt i p then d i else y) := fun p c d x y hc hx i hi => by
    cases hb : Nat.blt i p with
    | true => exact hc i (by simpa [Nat.blt_eq] using hb)
    | false => exact hx
  have done : ∀ (p0 : Bool) (p5 : Nat) (p6 p7 : Nat → Int), (1 ≤ p5 ∧ p5 ≤ 3) → (∀ i : Nat, i < p5 → RowOk (p6 i) (p7 i)) → TlOk (.r1 p0 (Ar.run .rem .i64 (Ar.run .sub .i64 0 (Ar.run .conv .i64 a1 0)) 20) (Ar.run .quo .i64 (Ar.run .conv .i64 a1 0) 16) (Ar.run .rem .i64 (Ar.run .sub .i64 0 (Ar.run .conv .i64 a2 0)) 10) (Ar.run .quo .i64 (Ar.run .conv .i64 a2 0) 32) p5 p6 p7) := fun p0 p5 p6 p7 hp hr => by
    rw [conv_byte h1, conv_byte h2, arSub (a := 0) (b := a1) (by omega), arSub (a := 0) (b := a2) (by omega)]
    have r1 := rem_neg h1.1 (show (0 : Int) < 20 by omega)
    have r2 := rem_neg h2.1 (show (0 : Int) < 10 by omega)
    have q1 := quo_byte h1 (show (1 : Int) ≤ 16 by omega)
    have q2 := quo_byte h2 (show (1 : Int) ≤ 32 by omega)
    exact ⟨by omega, by omega, by omega, by omega, hp, hr⟩
  refine AF.val_sat (E := TlOk)
    (Inv := fun b => match b with | .n0 => True | .n1 p0 p1 p2 p3 => 1 ≤ p0 ∧ p0 ≤ 3 ∧ (p1 : Int) = p0 ∧ ∀ i : Nat, i < p1 → RowOk (p2 i) (p3 i))
    (fun b => match b with | .n0 => 10 | .n1 p0 p1 p2 p3 => (3 - p0).toNat) (fun _ => rfl) (fun a hI => ?_) ?_
  · cases a with
    | n0 =>
      show DD.sat _ _ (dtoD a0 a1 a2 a3 a4 a5 a6 a7 a8 a9 a10 a11 a12 .n0)
      unfold dtoD
      simp only [DD.sat, cmLss, cmLssF, Nat.zero_add, Int.toNat_zero, decide_eq_true_eq]
      refine ⟨fun _ => ⟨fun h => ⟨trivial, h, by omega, ⟨by omega, by omega, by decide, fun i _ => row 0⟩, by decide⟩, fun h => ⟨⟨by omega, by omega, by decide, fun i _ => zero⟩, by decide⟩⟩, fun h => (by cases h)⟩
    | n1 p0 p1 p2 p3 =>
      obtain ⟨g0, g1, g2, g3⟩ := hI
      show DD.sat _ _ (dtoD a0 a1 a2 a3 a4 a5 a6 a7 a8 a9 a10 a11 a12 (.n1 p0 p1 p2 p3))
      unfold dtoD
      have ea : Ar.run .add .i64 p0 1 = p0 + 1 := arAdd (by omega)
      simp only [DD.sat, cmLss, cmLssF, cmEql, cmEqlF, Nat.zero_add, decide_eq_true_eq, ea]
      refine ⟨fun h => by omega, fun _ => ⟨fun h => ⟨fun h3 => ⟨fun _ => ⟨by omega, h, by omega, Nat.le_refl _, by omega, ⟨by omega, by omega, by omega, ext p1 p2 p3 _ _ g3 (row p0.toNat)⟩, by omega⟩, fun h' => by omega⟩, fun h3 => done _ _ _ _ (by omega) g3⟩, fun h => done _ _ _ _ (by omega) g3⟩⟩
  · show True
    trivial
end
end Go.Proofs.Ytlmoamafkjplbaa.Cx

/- A CALL THAT IS KNOWN BY A RUN OF ITS OWN: the evaluator runs it once, in a small memory that holds its arguments' blocks; wherever the same arguments come up, with blocks that hold the same, it yields the same. So a long run is many short ones, each a theorem of its own. -/
namespace Go.Proofs.Ytlmoamafkjplbaa.Cx
set_option linter.unusedSimpArgs false
set_option linter.unusedVariables false
open Go Go.RowKit

mutual
/-- The same value, where block b is called β b. -/
def CV.eqv (β : Nat → Nat) (N : Nat) : CV → CV → Bool
  | .bool (.c a), .bool (.c b) => (a && b) || (!a && !b)
  | .int k (.c n), .int k' (.c m) => decide (k = k') && decide (n = m)
  | .ptr none, .ptr none => true
  | .ptr (some (b, o)), .ptr (some (b', o')) => Nat.blt b N && (Nat.beq (β b) b' && Nat.beq o o')
  | .slc none n c, .slc none n' c' => Nat.beq n n' && Nat.beq c c'
  | .slc (some (b, o)) n c, .slc (some (b', o')) n' c' => Nat.blt b N && (Nat.beq (β b) b' && (Nat.beq o o' && (Nat.beq n n' && Nat.beq c c')))
  | .emp, .emp => true
  | .agg l, .agg m => CV.eqvl β N l m
  | .tup l, .tup m => CV.eqvl β N l m
  | _, _ => false
def CV.eqvl (β : Nat → Nat) (N : Nat) : List CV → List CV → Bool
  | [], [] => true
  | c :: l, d :: m => CV.eqv β N c d && CV.eqvl β N l m
  | _, _ => false
end

section
variable {P : Program} {ρ : Env}

mutual
theorem CV.eqv_ok {β : Nat → Nat} {N : Nat} {σ τ : Mp} (hβ : ∀ b, b < N → τ b = σ (β b)) : ∀ (c d : CV) {v : Value}, CV.eqv β N c d = true → VR ρ σ d v → VR ρ τ c v := by
  intro c d v h hv
  unfold CV.eqv at h
  split at h
  · rename_i a b
    obtain rfl := hv.bool_inv
    have e : a = b := by cases a <;> cases b <;> first | rfl | cases h
    subst e
    exact .bool (.c a)
  · simp only [Bool.and_eq_true, decide_eq_true_eq] at h
    obtain ⟨rfl, rfl⟩ := h
    obtain rfl := hv.int_inv
    exact .int _ (.c _)
  · cases hv; exact .ptr0
  · rename_i b o b' o'
    simp only [Bool.and_eq_true] at h
    obtain ⟨h1, h2, h3⟩ := h
    obtain rfl := Nat.eq_of_beq_eq_true h2
    obtain rfl := Nat.eq_of_beq_eq_true h3
    cases hv with
    | ptr hl => exact .ptr ((hβ b (blt_lt h1)).trans hl)
  · simp only [Bool.and_eq_true] at h
    obtain ⟨h1, h2⟩ := h
    obtain rfl := Nat.eq_of_beq_eq_true h1
    obtain rfl := Nat.eq_of_beq_eq_true h2
    cases hv; exact .slc0
  · rename_i b o n c b' o' n' c'
    simp only [Bool.and_eq_true] at h
    obtain ⟨h1, h2, h3, h4, h5⟩ := h
    obtain rfl := Nat.eq_of_beq_eq_true h2
    obtain rfl := Nat.eq_of_beq_eq_true h3
    obtain rfl := Nat.eq_of_beq_eq_true h4
    obtain rfl := Nat.eq_of_beq_eq_true h5
    cases hv with
    | slc hl hc hs => exact .slc ((hβ b (blt_lt h1)).trans hl) hc hs
  · cases hv; exact .emp _ _
  · rename_i l m
    obtain ⟨cs, rfl, h1⟩ := hv.agg_inv
    exact .agg (CV.eqvl_ok hβ l m h h1)
  · rename_i l m
    obtain ⟨cs, rfl, h1⟩ := hv.tup_inv
    exact .tup (CV.eqvl_ok hβ l m h h1)
  · cases h
theorem CV.eqvl_ok {β : Nat → Nat} {N : Nat} {σ τ : Mp} (hβ : ∀ b, b < N → τ b = σ (β b)) : ∀ (l m : List CV) {vs : List Value}, CV.eqvl β N l m = true → VRl ρ σ m vs → VRl ρ τ l vs
  | [], [], _, _, hv => by cases hv; exact .nil
  | [], d :: m, _, h, _ => by unfold CV.eqvl at h; cases h
  | c :: l, [], _, h, _ => by unfold CV.eqvl at h; cases h
  | c :: l, d :: m, _, h, hv => by
    unfold CV.eqvl at h
    simp only [Bool.and_eq_true] at h
    cases hv with
    | cons h1 t1 => exact .cons (CV.eqv_ok hβ c d h.1 h1) (CV.eqvl_ok hβ l m h.2 t1)
end

abbrev KBlk := List CV × Nat
def KBlk.blk (x : KBlk) : Blk := ⟨.lit x.1, x.2, true, none⟩

noncomputable def hB : List KBlk → Nat → Tr Blk
  | [], _ => .nil
  | x :: l, q => (hB l (q + 1)).set q (KBlk.blk x)

theorem hB_get (i : Nat) : ∀ (l : List KBlk) (q : Nat) (k : Blk), (hB l q).get i = some k → ∃ j x, i = q + j ∧ l[j]? = some x ∧ k = KBlk.blk x
  | [], q, k, h => by simp [hB, Tr.get_nil] at h
  | x :: l, q, k, h => by
    simp only [hB, Tr.get_set] at h
    by_cases hi : i = q
    · rw [if_pos hi] at h
      cases h
      exact ⟨0, x, by omega, rfl, rfl⟩
    · rw [if_neg hi] at h
      obtain ⟨j, x', h1, h2, h3⟩ := hB_get i l (q + 1) k h
      exact ⟨j + 1, x', by omega, by simpa using h2, h3⟩

def nodB : List Nat → Bool
  | [] => true
  | b :: l => !(l.any (Nat.beq b)) && nodB l
theorem nodB_ok : ∀ {l : List Nat}, nodB l = true → ∀ (i j b : Nat), l[i]? = some b → l[j]? = some b → i = j
  | [], _, i, j, b, h, _ => by simp at h
  | c :: l, h, i, j, b, hi, hj => by
    unfold nodB at h
    simp only [Bool.and_eq_true, Bool.not_eq_true'] at h
    have no : ∀ j : Nat, l[j]? = some c → False := fun j hj => by
      have := List.any_eq_false.1 h.1 c (List.mem_of_getElem? hj)
      exact this (Nat.beq_refl c)
    cases i with
    | zero =>
      cases j with
      | zero => rfl
      | succ j =>
        have e0 : c = b := by simpa using hi
        subst e0
        exact (no j (by simpa using hj)).elim
    | succ i =>
      cases j with
      | zero =>
        have e0 : c = b := by simpa using hj
        subst e0
        exact (no i (by simpa using hi)).elim
      | succ j => exact congrArg Nat.succ (nodB_ok h.2 i j b (by simpa using hi) (by simpa using hj))

/-- A call: its arguments, their blocks, what it yields, the blocks that it makes and that matter (how the run calls them): they are numbered behind the arguments' blocks. -/
structure KCall where
  g : Nat
  args : List CV
  blks : List KBlk
  c : CV
  new : List (Nat × KBlk)

def KCall.n1 (K : KCall) : Nat := K.blks.length + K.new.length
/-- What the run calls a block. -/
def KCall.old (K : KCall) (b : Nat) : Nat := bif Nat.blt b K.blks.length then b else match K.new[b - K.blks.length]? with | some x => x.1 | none => 0
noncomputable def KCall.h1 (K : KCall) : Tr Blk := hB (K.new.map (·.2)) K.blks.length

/-- The run says so. -/
noncomputable def KCall.says (K : KCall) : Option Out → Bool
  | some ⟨.val c', s1, _, []⟩ => (match s1.pc with | [] => true | _ => false) && (CV.eqv K.old K.n1 K.c c' && ((K.new.all fun x => (Nat.ble K.blks.length x.1 && Nat.blt x.1 s1.next) && match s1.heap.get x.1 with | some ⟨.lit l, e, true, none⟩ => CV.eqvl K.old K.n1 x.2.1 l && Nat.beq e x.2.2 | _ => false) && (nodB (K.new.map (·.1)) && K.blks.all fun x => CV.eqvl id K.blks.length x.1 x.1)))
  | _ => false

structure KCall.Ok (K : KCall) (P : Program) (ρ : Env) : Prop where
  fn : ∃ fn, P.funcs[K.g]? = some fn ∧ fn.body.isSome = true
  rg : K.c.rng K.blks.length K.n1 = true
  hg : ∀ x ∈ K.new, CV.rngl K.blks.length K.n1 x.2.1 = true
  ctr : Ctr P ρ K.g K.args (hB K.blks 0) K.blks.length [] K.c K.h1 K.n1

theorem KCall.of_run {K : KCall} (hP : progOk P = true) {memo : Memo} (hM : MemoOk P (ctxOf P memo) ρ) {m : Nat} (hf : (match P.funcs[K.g]? with | some fn => fn.body.isSome | none => false) = true)
    (h2 : K.c.rng K.blks.length K.n1 = true) (h3 : (K.new.all fun x => CV.rngl K.blks.length K.n1 x.2.1) = true)
    (h : K.says (eval (ctxOf P memo) m K.blks.length (.call K.g K.args) ⟨hB K.blks 0, K.blks.length, [], []⟩) = true) : K.Ok P ρ := by
  refine ⟨?_, h2, fun x hx => List.all_eq_true.1 h3 x hx, ?_, ?_⟩
  · split at hf
    · rename_i fn hfn; exact ⟨fn, hfn, hf⟩
    · cases hf
  · split at hf
    · rename_i fn hfn; exact ⟨fn, hfn, hf⟩
    · cases hf
  · intro n σ w args' ha hH hN
    generalize he : eval (ctxOf P memo) m K.blks.length (.call K.g K.args) ⟨hB K.blks 0, K.blks.length, [], []⟩ = r at h
    unfold KCall.says at h
    split at h
    · rename_i c' s1 R
      simp only [Bool.and_eq_true] at h
      obtain ⟨q1, q3, q4, q5, q6⟩ := h
      have hpc : s1.pc = [] := by
        split at q1
        · assumption
        · cases q1
      have k := (eval_ok (ρ := ρ) (ctxOf_ok hP memo) hM m).call _ _ _ _ _ _ _ _ he
      have := k.run n σ (curOf (hB K.blks 0) K.blks.length) w args' (by rw [hpc]; intro p hp; cases hp) ha hH (fun b hb => by
        rcases hb with hb | hb
        · have : b < K.blks.length := k.lt.1 b hb
          exact if_pos this
        · cases hb) (fun b hb _ => hN b hb)
      refine this.mono ?_
      rintro e' w' ⟨v, rfl, σ1, x1, x2, x3, x4, x5⟩
      have x1 : Ext σ σ1 K.blks.length s1.next := x1
      have x3 : HR ρ σ1 (upd (curOf (hB K.blks 0) K.blks.length) K.blks.length s1.next s1.heap []) w' := x3
      have x5 : Fresh σ σ1 K.blks.length s1.next K.blks.length [] w := x5
      have old0 : ∀ b, b < K.blks.length → K.old b = b := fun b hb => by
        unfold KCall.old
        rw [show Nat.blt b K.blks.length = true from Nat.ble_eq_true_of_le hb, cond_true]
      have old1 : ∀ b, ¬ b < K.blks.length → b < K.n1 → ∃ x, K.new[b - K.blks.length]? = some x ∧ K.old b = x.1 := fun b hb hb2 => by
        have hl : b - K.blks.length < K.new.length := by unfold KCall.n1 at hb2; omega
        refine ⟨_, List.getElem?_eq_getElem hl, ?_⟩
        unfold KCall.old
        have hbf : Nat.blt b K.blks.length = false := by
          cases hbb : Nat.blt b K.blks.length with
          | false => rfl
          | true => exact absurd (blt_lt hbb) hb
        rw [hbf, cond_false, List.getElem?_eq_getElem hl]
      have newOk : ∀ x ∈ K.new, (K.blks.length ≤ x.1 ∧ x.1 < s1.next) ∧ ∃ l, s1.heap.get x.1 = some ⟨.lit l, x.2.2, true, none⟩ ∧ CV.eqvl K.old K.n1 x.2.1 l = true := fun x hx => by
        have := List.all_eq_true.1 q4 x hx
        simp only [Bool.and_eq_true] at this
        obtain ⟨⟨g1, g2⟩, g3⟩ := this
        refine ⟨⟨Nat.le_of_ble_eq_true g1, blt_lt g2⟩, ?_⟩
        split at g3
        · rename_i l e hl
          simp only [Bool.and_eq_true] at g3
          obtain rfl := Nat.eq_of_beq_eq_true g3.2
          exact ⟨l, hl, g3.1⟩
        · cases g3
      obtain ⟨σ2, hσ2⟩ : ∃ σ2 : Mp, σ2 = fun b => if b < K.n1 then σ1 (K.old b) else none := ⟨_, rfl⟩
      have hβ : ∀ b, b < K.n1 → σ2 b = σ1 (K.old b) := fun b hb => by rw [hσ2]; exact if_pos hb
      have hle : K.blks.length ≤ K.n1 := by unfold KCall.n1; omega
      have hlow : ∀ b, b < K.blks.length → σ2 b = σ1 b := fun b hb => by rw [hβ b (by omega), old0 b hb]
      have get : ∀ b k, upd (curOf (hB K.blks 0) K.blks.length) K.blks.length K.n1 K.h1 [] b = some k → b < K.n1 ∧ (∃ k1, upd (curOf (hB K.blks 0) K.blks.length) K.blks.length s1.next s1.heap [] (K.old b) = some k1 ∧ k.live = k1.live ∧ k.esz = k1.esz ∧ k.ext = none ∧ k1.ro = false ∧ ∀ us, VRl ρ σ1 k1.cells us → VRl ρ σ2 k.cells us) := by
        intro b k hk
        by_cases hb : b < K.blks.length
        · refine ⟨by omega, ?_⟩
          unfold upd at hk ⊢
          rw [old0 b hb]
          rw [if_neg (by simp; omega)] at hk ⊢
          have hk2 : curOf (hB K.blks 0) K.blks.length b = some k := hk
          unfold curOf at hk2
          rw [if_pos hb] at hk2
          obtain ⟨j, x, rfl, g1, rfl⟩ := hB_get b K.blks 0 k hk2
          exact ⟨_, hk, rfl, rfl, rfl, rfl, fun us hus => CV.eqvl_ok (fun b hb => hlow b hb) _ _ (List.all_eq_true.1 q6 x (List.mem_of_getElem? g1)) hus⟩
        · by_cases hb2 : b < K.n1
          · refine ⟨hb2, ?_⟩
            unfold upd at hk
            rw [if_pos (.inr ⟨by omega, hb2⟩)] at hk
            have hk : (hB (K.new.map (·.2)) K.blks.length).get b = some k := hk
            obtain ⟨j, x, rfl, g1, rfl⟩ := hB_get b _ _ k hk
            rw [List.getElem?_map] at g1
            obtain ⟨y, hy, hyo⟩ := old1 (K.blks.length + j) hb hb2
            rw [Nat.add_sub_cancel_left] at hy
            rw [hy] at g1
            obtain rfl : y.2 = x := Option.some.inj g1
            obtain ⟨⟨r1, r2⟩, l, r3, r4⟩ := newOk y (List.mem_of_getElem? hy)
            refine ⟨⟨.lit l, y.2.2, true, none⟩, ?_, rfl, rfl, rfl, rfl, fun us hus => CV.eqvl_ok hβ _ _ r4 hus⟩
            unfold upd
            rw [hyo, if_pos (.inr ⟨r1, r2⟩)]
            exact r3
          · unfold upd at hk
            rw [if_neg (by simp; omega)] at hk
            unfold curOf at hk
            rw [if_neg hb] at hk
            cases hk
      have inj : ∀ b b', b < K.n1 → b' < K.n1 → K.old b = K.old b' → b = b' := by
        intro b b' hb hb' he
        by_cases h1 : b < K.blks.length
        · rw [old0 b h1] at he
          by_cases h2 : b' < K.blks.length
          · rw [old0 b' h2] at he; exact he
          · obtain ⟨y, hy, hyo⟩ := old1 b' h2 hb'
            have := (newOk y (List.mem_of_getElem? hy)).1.1
            omega
        · obtain ⟨x, hx, hxo⟩ := old1 b h1 hb
          by_cases h2 : b' < K.blks.length
          · rw [old0 b' h2] at he
            have := (newOk x (List.mem_of_getElem? hx)).1.1
            omega
          · obtain ⟨y, hy, hyo⟩ := old1 b' h2 hb'
            have := nodB_ok q5 (b - K.blks.length) (b' - K.blks.length) x.1 (by rw [List.getElem?_map, hx]; rfl) (by rw [List.getElem?_map, hy]; show some y.1 = some x.1; rw [← hyo, ← he, hxo])
            omega
      refine ⟨v, rfl, σ2, fun b hb => ?_, CV.eqv_ok hβ _ _ q3 x2, ?_, x4, fun b l b1 b2 b3 => ?_⟩
      · have hb : b < K.blks.length ∨ K.n1 ≤ b := hb
        rcases hb with hb | hb
        · rw [hlow b hb]; exact x1 b (.inl hb)
        · rw [hσ2, hN b (by omega)]; exact if_neg (by omega)
      · refine ⟨fun b k l a1 a2 a3 => ?_, fun b b' k k' l l' a1 a2 a3 a4 a5 a6 a7 a8 => ?_, fun b k x l a1 a2 a3 => ?_, fun b b' k k' x x' l l' a1 a2 a3 a4 a5 a6 a7 => ?_, fun y hy => ⟨(x3.glob y hy).1, fun b k l a1 a2 ar a3 => ?_⟩⟩
        · obtain ⟨hb, k1, g1, g2, g3, _, _, g5⟩ := get b k a1
          rw [hβ b hb] at a3
          obtain ⟨cs, t, p, r1, r2, r3, r4, r5, r6⟩ := x3.cell _ k1 l g1 (g2 ▸ a2) a3
          have r7 := g5 _ r6
          have hln : k.cells.length = k1.cells.length := r7.length.symm.trans r6.length
          exact ⟨cs, t, p, r1, fun _ => r2 (by assumption), r3, g3.trans r4, by rw [hln]; exact r5, by rw [hln]; exact r7⟩
        · obtain ⟨hb, k1, g1, g2, _, _, g4, _⟩ := get b k a1
          obtain ⟨hb', k1', g1', g2', _, _, g4', _⟩ := get b' k' a4
          rw [hβ b hb] at a3
          rw [hβ b' hb'] at a6
          exact inj b b' hb hb' (x3.inj _ _ k1 k1' l l' g1 (g2 ▸ a2) a3 g1' (g2' ▸ a5) a6 a7 (.inl g4))
        · obtain ⟨_, _, _, _, _, g, _⟩ := get b k a1
          rw [g] at a2; cases a2
        · obtain ⟨_, _, _, _, _, g, _⟩ := get b k a1
          rw [g] at a2; cases a2
        · obtain ⟨hb, k1, g1, g2, _, _, g4, _⟩ := get b k a1
          rw [hβ b hb] at a3
          exact (x3.glob y hy).2 _ k1 l g1 (g2 ▸ a2) g4 a3
      · have b2 : b < K.n1 := b2
        have hnb : ¬ b < K.blks.length := by have b1 : K.blks.length ≤ b := b1; omega
        rw [hβ b b2] at b3
        obtain ⟨y, hy, hyo⟩ := old1 b hnb b2
        obtain ⟨⟨r1, r2⟩, _⟩ := newOk y (List.mem_of_getElem? hy)
        rw [hyo] at b3
        exact x5 y.1 l r1 r2 b3
    · cases h

/-- The new blocks, by the numbers that they get. -/
def newL (q : Nat) : List (Nat × KBlk) → List (Nat × Blk)
  | [] => []
  | x :: l => (q, KBlk.blk x.2) :: newL (q + 1) l
def KCall.newB (K : KCall) : List (Nat × Blk) := newL K.blks.length K.new

theorem newL_mem : ∀ {l : List (Nat × KBlk)} {q : Nat} {y : Nat × Blk}, y ∈ newL q l → (q ≤ y.1 ∧ y.1 < q + l.length) ∧ ∃ x ∈ l, y.2 = KBlk.blk x.2
  | [], q, y, h => by cases h
  | x :: l, q, y, h => by
    rcases List.mem_cons.1 h with rfl | h
    · exact ⟨⟨Nat.le_refl _, by simp⟩, x, List.mem_cons_self .., rfl⟩
    · obtain ⟨⟨h1, h2⟩, z, hz, e⟩ := newL_mem h
      exact ⟨⟨by omega, by simp only [List.length_cons]; omega⟩, z, List.mem_cons_of_mem _ hz, e⟩
theorem newL_find : ∀ (l : List (Nat × KBlk)) (q b : Nat), (newL q l).find? (fun x => x.1 == b) = if q ≤ b then (l[b - q]?).map (fun x => (b, KBlk.blk x.2)) else none
  | [], q, b => by simp [newL]
  | x :: l, q, b => by
    rw [newL, List.find?_cons]
    by_cases h : q = b
    · subst h; simp
    · have hf : (q == b) = false := by simpa using h
      rw [hf, newL_find l (q + 1) b]
      by_cases h2 : q + 1 ≤ b
      · rw [if_pos h2, if_pos (by omega), show b - q = (b - (q + 1)) + 1 by omega, List.getElem?_cons_succ]
      · rw [if_neg h2, if_neg (by omega)]
theorem hB_at : ∀ (l : List KBlk) (q b : Nat), (hB l q).get b = if q ≤ b then (l[b - q]?).map KBlk.blk else none
  | [], q, b => by simp [hB, Tr.get_nil]
  | x :: l, q, b => by
    rw [hB, Tr.get_set]
    by_cases h : b = q
    · subst h; simp
    · rw [if_neg h, hB_at l (q + 1) b]
      by_cases h2 : q + 1 ≤ b
      · rw [if_pos h2, if_pos (by omega), show b - q = (b - (q + 1)) + 1 by omega, List.getElem?_cons_succ]
      · rw [if_neg h2, if_neg (by omega)]

/-! ## The memo -/

def insM (b b' : Nat) (m : List (Nat × Nat)) : List (Nat × Nat) := bif m.any (fun x => Nat.beq x.1 b) then m else (b, b') :: m
mutual
def CV.uni : CV → CV → List (Nat × Nat) → List (Nat × Nat)
  | .ptr (some (b, _)), .ptr (some (b', _)), m => insM b b' m
  | .slc (some (b, _)) _ _, .slc (some (b', _)) _ _, m => insM b b' m
  | .agg l, .agg l', m => CV.unil l l' m
  | .tup l, .tup l', m => CV.unil l l' m
  | _, _, m => m
def CV.unil : List CV → List CV → List (Nat × Nat) → List (Nat × Nat)
  | c :: l, d :: l', m => CV.unil l l' (CV.uni c d m)
  | _, _, m => m
end
def lookM (m : List (Nat × Nat)) (b : Nat) : Nat := match m.find? (fun x => Nat.beq x.1 b) with | some x => x.2 | none => 0
noncomputable def uniB (s : St) : List KBlk → Nat → List (Nat × Nat) → List (Nat × Nat)
  | [], _, m => m
  | x :: l, i, m => uniB s l (i + 1) (match s.heap.get (lookM m i) with | some ⟨.lit k, _, _, _⟩ => CV.unil x.1 k m | _ => m)

noncomputable def chkB (s : St) (β : Nat → Nat) (N : Nat) : List KBlk → Nat → Bool
  | [], _ => true
  | x :: l, i => (match s.heap.get (β i) with | some ⟨.lit k, e, true, none⟩ => CV.eqvl β N x.1 k && (Nat.beq e x.2 && Nat.blt (β i) s.next) | _ => false) && chkB s β N l (i + 1)

theorem chkB_ok {s : St} {β : Nat → Nat} {N : Nat} : ∀ {l : List KBlk} {q : Nat}, chkB s β N l q = true → ∀ j x, l[j]? = some x → ∃ k e, s.heap.get (β (q + j)) = some ⟨.lit k, e, true, none⟩ ∧ CV.eqvl β N x.1 k = true ∧ e = x.2 ∧ β (q + j) < s.next
  | [], q, _, j, x, h => by simp at h
  | y :: l, q, h, j, x, hx => by
    unfold chkB at h
    simp only [Bool.and_eq_true] at h
    obtain ⟨h1, h2⟩ := h
    cases j with
    | zero =>
      have e0 : y = x := by simpa using hx
      subst e0
      split at h1
      · rename_i k e hk
        simp only [Bool.and_eq_true] at h1
        exact ⟨k, e, hk, h1.1, Nat.eq_of_beq_eq_true h1.2.1, blt_lt h1.2.2⟩
      · cases h1
    | succ j =>
      have := chkB_ok h2 j x (by simpa using hx)
      rw [show q + 1 + j = q + (j + 1) by omega] at this
      exact this

/-- The names that the blocks have. -/
noncomputable def KCall.bs (K : KCall) (s : St) (args : List CV) : List Nat := (List.range K.blks.length).map (lookM (uniB s K.blks 0 (CV.unil K.args args [])))
def bOf (bs : List Nat) (i : Nat) : Nat := (bs[i]?).getD 0

noncomputable def KCall.fits (K : KCall) (s : St) (args : List CV) (bs : List Nat) : Bool :=
  CV.eqvl (bOf bs) K.blks.length K.args args && (chkB s (bOf bs) K.blks.length K.blks 0 && (nodB bs && Nat.beq bs.length K.blks.length))

noncomputable def memoK (K : KCall) (inner : Memo) : Memo := fun f args s =>
  bif Nat.beq f K.g && K.fits s args (K.bs s args) then
    some (K.c.ren (liftName K.blks.length s.next), { s with heap := putNew K.blks.length s.next s.heap K.newB, next := s.next + (K.n1 - K.blks.length) }, K.bs s args, [])
  else inner f args s

theorem memoK_ok {K : KCall} {inner : Memo} (hK : K.Ok P ρ) (hi : MemoOk P (ctxOf P inner) ρ) : MemoOk P (ctxOf P (memoK K inner)) ρ := by
  have lift : ∀ {f args s c s' R' W}, CallOk P (ctxOf P inner) ρ f args s c s' R' W → CallOk P (ctxOf P (memoK K inner)) ρ f args s c s' R' W := fun h => ⟨h.fn, h.frm, h.lt, h.run⟩
  intro f args s c s' R' W h0
  have h : memoK K inner f args s = some (c, s', R', W) := h0
  clear h0
  unfold memoK at h
  generalize hbs : K.bs s args = bs at h
  cases hf : (Nat.beq f K.g && K.fits s args bs) with
  | false => rw [hf, cond_false] at h; exact lift (hi _ _ _ _ _ _ _ h)
  | true =>
    rw [hf, cond_true] at h
    cases h
    simp only [Bool.and_eq_true, KCall.fits] at hf
    obtain ⟨f1, f2, f3, f4, f5⟩ := hf
    obtain rfl := Nat.eq_of_beq_eq_true f1
    have hlen := Nat.eq_of_beq_eq_true f5
    have hblk := chkB_ok f3
    have at' : ∀ i, i < K.blks.length → R'[i]? = some (bOf R' i) := fun i hi => by
      unfold bOf
      rw [List.getElem?_eq_getElem (by omega)]
      rfl
    have rngw : ∀ x ∈ K.newB, K.blks.length ≤ x.1 ∧ x.1 < K.n1 := fun x hx => (newL_mem hx).1
    refine Ctr.callS (base := K.blks.length) (n1 := K.n1) (args := K.args) (h0 := hB K.blks 0) (h1 := K.h1) (K := fun _ => hK.ctr) hK.fn (by unfold KCall.n1; omega) rfl ⟨[], rfl⟩ (fun b hb => ?_) (fun j hj kb hk => ?_) (fun b hb => ?_) (fun σ cur w l hp hl hH hcur => ?_) (fun σ σ2 v hl h => VR.lift hl h hK.rg)
    · show (putNew _ _ _ _).get b = _
      rw [get_putNew]
      split
      · rename_i x hx
        have h1 := List.find?_some hx
        have h2 := List.mem_of_find?_eq_some hx
        simp only [beq_iff_eq] at h1
        obtain ⟨q1, q2⟩ := rngw _ h2
        refine absurd ?_ hb
        show s.next ≤ b ∧ b < s.next + (K.n1 - K.blks.length)
        unfold liftName at h1
        omega
      · rfl
    · have hk : (putNew K.blks.length s.next s.heap K.newB).get (s.next + j) = some kb := hk
      rw [get_putNew] at hk
      have e : ∀ x ∈ K.newB, (liftName K.blks.length s.next x.1 == s.next + j) = (x.1 == K.blks.length + j) := fun x hx => by
        obtain ⟨q1, q2⟩ := rngw x hx
        unfold liftName
        rw [Bool.eq_iff_iff]
        simp only [beq_iff_eq]
        omega
      have hcg := find_congr e
      rw [hcg] at hk
      have hjl : j < K.new.length := by unfold KCall.n1 at hj; omega
      have hfd : K.newB.find? (fun x => x.1 == K.blks.length + j) = some (K.blks.length + j, KBlk.blk K.new[j].2) := by
        unfold KCall.newB
        rw [newL_find, if_pos (by omega), Nat.add_sub_cancel_left, List.getElem?_eq_getElem hjl]
        rfl
      rw [hfd] at hk
      cases hk
      have hmem : K.new[j] ∈ K.new := List.getElem_mem hjl
      have g1 := hK.hg _ hmem
      refine ⟨KBlk.blk K.new[j].2, ?_, rfl, rfl, rfl, fun h => rfl, fun σ σ2 us hl h => Blk.lift (k := KBlk.blk K.new[j].2) hl g1 h⟩
      unfold KCall.h1
      rw [hB_at, if_pos (by omega), Nat.add_sub_cancel_left, List.getElem?_map, List.getElem?_eq_getElem hjl]
      rfl
    · obtain ⟨i, hi'⟩ := List.getElem?_of_mem hb
      have hil : i < K.blks.length := by
        have := (List.getElem?_eq_some_iff.1 hi').1
        omega
      obtain ⟨k, e, _, _, _, q⟩ := hblk i _ (List.getElem?_eq_getElem hil)
      rw [Nat.zero_add] at q
      have := at' i hil
      rw [hi'] at this
      rw [Option.some.inj this]; exact q
    · have hτ : ∀ b, b < K.blks.length → (fun i => if i < K.blks.length then σ (bOf R' i) else none) b = σ (bOf R' b) := fun b hb => if_pos hb
      refine ⟨fun i => if i < K.blks.length then σ (bOf R' i) else none, CV.eqvl_ok hτ _ _ f2 hl, ?_, fun b hb => if_neg (by omega)⟩
      have get : ∀ b k, curOf (hB K.blks 0) K.blks.length b = some k → ∃ x k1, b < K.blks.length ∧ k = KBlk.blk x ∧ cur (bOf R' b) = some ⟨.lit k1, x.2, true, none⟩ ∧ ∀ us, VRl ρ σ k1 us → VRl ρ (fun i => if i < K.blks.length then σ (bOf R' i) else none) x.1 us := by
        intro b k hk
        unfold curOf at hk
        split at hk
        · rename_i hb
          obtain ⟨j, x, rfl, g1, rfl⟩ := hB_get b K.blks 0 k hk
          obtain ⟨k1, e, c1, c2, rfl, c4⟩ := hblk j x g1
          have hm : bOf R' (0 + j) ∈ R' := List.mem_of_getElem? (at' _ hb)
          exact ⟨x, k1, hb, rfl, (hcur _ hm).trans c1, fun us hus => CV.eqvl_ok hτ _ _ c2 hus⟩
        · cases hk
      refine ⟨fun b k l a1 a2 a3 => ?_, fun b b' k k' l l' a1 a2 a3 a4 a5 a6 a7 a8 => ?_, fun b k x l a1 a2 a3 => ?_, fun b b' k k' x x' l l' a1 a2 a3 a4 a5 a6 a7 => ?_, fun y hy => ⟨(hH.glob y hy).1, fun b k l a1 a2 ar a3 => ?_⟩⟩
      · obtain ⟨x, k1, hb, rfl, q1, q2⟩ := get b k a1
        have a3 : (if b < K.blks.length then σ (bOf R' b) else none) = some l := a3
        rw [if_pos hb] at a3
        obtain ⟨cs, t, p, r1, r2, r3, r4, r5, r6⟩ := hH.cell _ _ l q1 rfl a3
        have r7 := q2 _ r6
        have r6l := r6.length
        have r7l := r7.length
        have e1 : Blk.cells ⟨.lit k1, x.2, true, none⟩ = k1 := rfl
        have e2 : Blk.cells (KBlk.blk x) = x.1 := rfl
        rw [e1] at r5 r6 r7 r7l r6l
        have hln : x.1.length = k1.length := r7l.symm.trans r6l
        exact ⟨cs, t, p, r1, fun _ => r2 rfl, r3, r4, by rw [e2, hln]; exact r5, by rw [e2, hln]; exact r7⟩
      · obtain ⟨x, k1, hb, rfl, q1, _⟩ := get b k a1
        obtain ⟨x', k1', hb', rfl, q1', _⟩ := get b' k' a4
        have a3 : (if b < K.blks.length then σ (bOf R' b) else none) = some l := a3
        have a6 : (if b' < K.blks.length then σ (bOf R' b') else none) = some l' := a6
        rw [if_pos hb] at a3
        rw [if_pos hb'] at a6
        have := hH.inj _ _ _ _ l l' q1 rfl a3 q1' rfl a6 a7 (.inl rfl)
        exact nodB_ok f4 b b' _ (at' b hb) (by rw [this]; exact at' b' hb')
      · obtain ⟨x', k1, hb, rfl, _⟩ := get b k a1
        cases a2
      · obtain ⟨x', k1, hb, rfl, _⟩ := get b k a1
        cases a2
      · obtain ⟨x', k1, hb, rfl, q1, _⟩ := get b k a1
        have a3 : (if b < K.blks.length then σ (bOf R' b) else none) = some l := a3
        rw [if_pos hb] at a3
        exact (hH.glob y hy).2 _ _ l q1 rfl rfl a3
end
end Go.Proofs.Ytlmoamafkjplbaa.Cx

/- Calls that acme/acmelaw07.known makes, each known by a run of its own. Made by tools/cxkcalls.py. -/
namespace Go.Proofs.Ytlmoamafkjplbaa.Cx
set_option maxRecDepth 100000
set_option linter.unusedVariables false
open Go Go.Proofs Go.RowKit

def CxKn07K0 : KCall := ⟨18, [.agg [.bool (.c false), .int .i64 (.c (-1000)), .int .i64 (.c 1000), .int .i64 (.c (-500)), .int .i64 (.c 500), .slc (some (0, 0)) 2 2], .slc (some (1, 0)) 2 2, .int .i64 (.c 0), .int .i64 (.c 200)], [([.int .i64 (.c 10), .int .i64 (.c 20), .int .i64 (.c 50), .int .i64 (.c 100)], 2), ([.int .i64 (.c 200), .int .i64 (.c 0), .int .i64 (.c 100000), .int .i64 (.c 110000), .int .i64 (.c 100), .int .i64 (.c 1), .int .i64 (.c 100000), .int .i64 (.c 110000)], 4)], .tup [.agg [.int .i64 (.c 2000), .int .i64 (.c 4000)], .int .i64 (.c 0)], []⟩
theorem CxKn07K0_run : CxKn07K0.says (eval (ctxOf Try.prog memo0) 1000 CxKn07K0.blks.length (.call CxKn07K0.g CxKn07K0.args) ⟨hB CxKn07K0.blks 0, CxKn07K0.blks.length, [], []⟩) = true := by kernel_rfl
theorem CxKn07K0_ok {ρ : Env} : CxKn07K0.Ok Try.prog ρ := KCall.of_run try_ok memo0_ok (by kernel_rfl) (by kernel_rfl) (by kernel_rfl) CxKn07K0_run

def CxKn07K1 : KCall := ⟨19, [.agg [.bool (.c false), .int .i64 (.c (-1000)), .int .i64 (.c 1000), .int .i64 (.c (-500)), .int .i64 (.c 500), .slc (some (0, 0)) 2 2], .slc (some (1, 0)) 2 2, .int .i64 (.c 0), .int .i64 (.c 200)], [([.int .i64 (.c 10), .int .i64 (.c 20), .int .i64 (.c 50), .int .i64 (.c 100)], 2), ([.int .i64 (.c 200), .int .i64 (.c 0), .int .i64 (.c 100000), .int .i64 (.c 110000), .int .i64 (.c 100), .int .i64 (.c 1), .int .i64 (.c 100000), .int .i64 (.c 110000)], 4)], .tup [.agg [.int .i64 (.c 101500), .int .i64 (.c 104520)], .int .i64 (.c 0)], []⟩
theorem CxKn07K1_run : CxKn07K1.says (eval (ctxOf Try.prog memo0) 1000 CxKn07K1.blks.length (.call CxKn07K1.g CxKn07K1.args) ⟨hB CxKn07K1.blks 0, CxKn07K1.blks.length, [], []⟩) = true := by kernel_rfl
theorem CxKn07K1_ok {ρ : Env} : CxKn07K1.Ok Try.prog ρ := KCall.of_run try_ok memo0_ok (by kernel_rfl) (by kernel_rfl) (by kernel_rfl) CxKn07K1_run

end Go.Proofs.Ytlmoamafkjplbaa.Cx

/- Calls that acme/acmelaw07.known makes, each known by a run of its own. Made by tools/cxkcalls.py. -/
namespace Go.Proofs.Ytlmoamafkjplbaa.Cx
set_option maxRecDepth 100000
set_option linter.unusedVariables false
open Go Go.Proofs Go.RowKit

def CxKn07K2 : KCall := ⟨25, [.agg [.bool (.c false), .int .i64 (.c (-1000)), .int .i64 (.c 1000), .int .i64 (.c (-500)), .int .i64 (.c 500), .slc (some (0, 0)) 2 2], .slc (some (1, 0)) 2 2, .int .i64 (.c 0)], [([.int .i64 (.c 10), .int .i64 (.c 20), .int .i64 (.c 50), .int .i64 (.c 100)], 2), ([.int .i64 (.c 200), .int .i64 (.c 0), .int .i64 (.c 100000), .int .i64 (.c 110000), .int .i64 (.c 100), .int .i64 (.c 1), .int .i64 (.c 100000), .int .i64 (.c 110000)], 4)], .tup [.int .i64 (.c 231), .int .i64 (.c 0)], []⟩
theorem CxKn07K2_run : CxKn07K2.says (eval (ctxOf Try.prog memo0) 1000 CxKn07K2.blks.length (.call CxKn07K2.g CxKn07K2.args) ⟨hB CxKn07K2.blks 0, CxKn07K2.blks.length, [], []⟩) = true := by kernel_rfl
theorem CxKn07K2_ok {ρ : Env} : CxKn07K2.Ok Try.prog ρ := KCall.of_run try_ok memo0_ok (by kernel_rfl) (by kernel_rfl) (by kernel_rfl) CxKn07K2_run

def CxKn07K3 : KCall := ⟨26, [.agg [.bool (.c false), .int .i64 (.c (-1000)), .int .i64 (.c 1000), .int .i64 (.c (-500)), .int .i64 (.c 500), .slc (some (0, 0)) 2 2], .slc (some (1, 0)) 2 2], [([.int .i64 (.c 10), .int .i64 (.c 20), .int .i64 (.c 50), .int .i64 (.c 100)], 2), ([.int .i64 (.c 200), .int .i64 (.c 0), .int .i64 (.c 100000), .int .i64 (.c 110000), .int .i64 (.c 100), .int .i64 (.c 1), .int .i64 (.c 100000), .int .i64 (.c 110000)], 4)], .tup [.slc (some (2, 0)) 2 2, .int .i64 (.c 0)], [(725, ([.int .i64 (.c 0), .int .i64 (.c 101500), .int .i64 (.c 231), .int .i64 (.c 101500)], 2))]⟩
theorem CxKn07K3_run : CxKn07K3.says (eval (ctxOf Try.prog memo0) 1000 CxKn07K3.blks.length (.call CxKn07K3.g CxKn07K3.args) ⟨hB CxKn07K3.blks 0, CxKn07K3.blks.length, [], []⟩) = true := by kernel_rfl
theorem CxKn07K3_ok {ρ : Env} : CxKn07K3.Ok Try.prog ρ := KCall.of_run try_ok memo0_ok (by kernel_rfl) (by kernel_rfl) (by kernel_rfl) CxKn07K3_run

end Go.Proofs.Ytlmoamafkjplbaa.Cx

/- Calls that acme/acmelaw07.known makes, each known by a run of its own. Made by tools/cxkcalls.py. -/
namespace Go.Proofs.Ytlmoamafkjplbaa.Cx
set_option maxRecDepth 100000
set_option linter.unusedVariables false
open Go Go.Proofs Go.RowKit

def CxKn07K4 : KCall := ⟨30, [.agg [.bool (.c false), .int .i64 (.c (-1000)), .int .i64 (.c 1000), .int .i64 (.c (-500)), .int .i64 (.c 500), .slc (some (0, 0)) 2 2], .slc (some (1, 0)) 2 2, .int .i64 (.c 1)], [([.int .i64 (.c 10), .int .i64 (.c 20), .int .i64 (.c 50), .int .i64 (.c 100)], 2), ([.int .i64 (.c 200), .int .i64 (.c 0), .int .i64 (.c 100000), .int .i64 (.c 110000), .int .i64 (.c 100), .int .i64 (.c 1), .int .i64 (.c 100000), .int .i64 (.c 110000)], 4)], .tup [.int .i64 (.c 231), .int .i64 (.c 0)], []⟩
theorem CxKn07K4_run : CxKn07K4.says (eval (ctxOf Try.prog memo0) 1000 CxKn07K4.blks.length (.call CxKn07K4.g CxKn07K4.args) ⟨hB CxKn07K4.blks 0, CxKn07K4.blks.length, [], []⟩) = true := by kernel_rfl
theorem CxKn07K4_ok {ρ : Env} : CxKn07K4.Ok Try.prog ρ := KCall.of_run try_ok memo0_ok (by kernel_rfl) (by kernel_rfl) (by kernel_rfl) CxKn07K4_run

def CxKn07K5 : KCall := ⟨34, [.agg [.bool (.c false), .int .i64 (.c (-1000)), .int .i64 (.c 1000), .int .i64 (.c (-500)), .int .i64 (.c 500), .slc (some (0, 0)) 2 2], .slc (some (1, 0)) 2 2, .slc (some (2, 0)) 1 1], [([.int .i64 (.c 10), .int .i64 (.c 20), .int .i64 (.c 50), .int .i64 (.c 100)], 2), ([.int .i64 (.c 200), .int .i64 (.c 0), .int .i64 (.c 100000), .int .i64 (.c 110000), .int .i64 (.c 100), .int .i64 (.c 1), .int .i64 (.c 100000), .int .i64 (.c 110000)], 4), ([.int .i64 (.c 0), .int .i64 (.c 102000)], 2)], .tup [.int .i64 (.c 226), .int .i64 (.c 0)], []⟩
theorem CxKn07K5_run : CxKn07K5.says (eval (ctxOf Try.prog memo0) 1000 CxKn07K5.blks.length (.call CxKn07K5.g CxKn07K5.args) ⟨hB CxKn07K5.blks 0, CxKn07K5.blks.length, [], []⟩) = true := by kernel_rfl
theorem CxKn07K5_ok {ρ : Env} : CxKn07K5.Ok Try.prog ρ := KCall.of_run try_ok memo0_ok (by kernel_rfl) (by kernel_rfl) (by kernel_rfl) CxKn07K5_run

end Go.Proofs.Ytlmoamafkjplbaa.Cx

/- Calls that acme/acmelaw07.known makes, each known by a run of its own. Made by tools/cxkcalls.py. -/
namespace Go.Proofs.Ytlmoamafkjplbaa.Cx
set_option maxRecDepth 100000
set_option linter.unusedVariables false
open Go Go.Proofs Go.RowKit

def CxKn07K6 : KCall := ⟨35, [.agg [.bool (.c false), .int .i64 (.c (-1000)), .int .i64 (.c 1000), .int .i64 (.c (-500)), .int .i64 (.c 500), .slc (some (0, 0)) 2 2], .slc (some (1, 0)) 2 2, .slc (some (2, 0)) 2 2], [([.int .i64 (.c 10), .int .i64 (.c 20), .int .i64 (.c 50), .int .i64 (.c 100)], 2), ([.int .i64 (.c 200), .int .i64 (.c 0), .int .i64 (.c 100000), .int .i64 (.c 110000), .int .i64 (.c 100), .int .i64 (.c 1), .int .i64 (.c 100000), .int .i64 (.c 110000)], 4), ([.int .i64 (.c 0), .int .i64 (.c 231)], 1)], .tup [.int .i64 (.c (-1)), .int .i64 (.c 0)], []⟩
theorem CxKn07K6_run : CxKn07K6.says (eval (ctxOf Try.prog memo0) 1000 CxKn07K6.blks.length (.call CxKn07K6.g CxKn07K6.args) ⟨hB CxKn07K6.blks 0, CxKn07K6.blks.length, [], []⟩) = true := by kernel_rfl
theorem CxKn07K6_ok {ρ : Env} : CxKn07K6.Ok Try.prog ρ := KCall.of_run try_ok memo0_ok (by kernel_rfl) (by kernel_rfl) (by kernel_rfl) CxKn07K6_run

def CxKn07K7 : KCall := ⟨35, [.agg [.bool (.c false), .int .i64 (.c (-1000)), .int .i64 (.c 1000), .int .i64 (.c (-500)), .int .i64 (.c 500), .slc (some (0, 0)) 2 2], .slc (some (1, 0)) 2 2, .slc (some (2, 0)) 2 2], [([.int .i64 (.c 10), .int .i64 (.c 20), .int .i64 (.c 50), .int .i64 (.c 100)], 2), ([.int .i64 (.c 200), .int .i64 (.c 0), .int .i64 (.c 100000), .int .i64 (.c 110000), .int .i64 (.c 100), .int .i64 (.c 1), .int .i64 (.c 100000), .int .i64 (.c 110000)], 4), ([.int .i64 (.c 0), .int .i64 (.c 230)], 1)], .tup [.int .i64 (.c 0), .int .i64 (.c 0)], []⟩
theorem CxKn07K7_run : CxKn07K7.says (eval (ctxOf Try.prog memo0) 1000 CxKn07K7.blks.length (.call CxKn07K7.g CxKn07K7.args) ⟨hB CxKn07K7.blks 0, CxKn07K7.blks.length, [], []⟩) = true := by kernel_rfl
theorem CxKn07K7_ok {ρ : Env} : CxKn07K7.Ok Try.prog ρ := KCall.of_run try_ok memo0_ok (by kernel_rfl) (by kernel_rfl) (by kernel_rfl) CxKn07K7_run

end Go.Proofs.Ytlmoamafkjplbaa.Cx

/- Calls that acme/acmelaw07.known makes, each known by a run of its own. Made by tools/cxkcalls.py. -/
namespace Go.Proofs.Ytlmoamafkjplbaa.Cx
set_option maxRecDepth 100000
set_option linter.unusedVariables false
open Go Go.Proofs Go.RowKit

def CxKn07K8 : KCall := ⟨41, [.agg [.bool (.c false), .int .i64 (.c (-1000)), .int .i64 (.c 1000), .int .i64 (.c (-500)), .int .i64 (.c 500), .slc (some (0, 0)) 2 2], .agg [.int .i64 (.c 102400), .int .i64 (.c 103600)], .int .i64 (.c 1), .agg [.int .i64 (.c 100000), .int .i64 (.c 110000)]], [([.int .i64 (.c 10), .int .i64 (.c 20), .int .i64 (.c 50), .int .i64 (.c 100)], 2)], .tup [.int .i64 (.c 60), .int .i64 (.c 0)], []⟩
theorem CxKn07K8_run : CxKn07K8.says (eval (ctxOf Try.prog memo0) 1000 CxKn07K8.blks.length (.call CxKn07K8.g CxKn07K8.args) ⟨hB CxKn07K8.blks 0, CxKn07K8.blks.length, [], []⟩) = true := by kernel_rfl
theorem CxKn07K8_ok {ρ : Env} : CxKn07K8.Ok Try.prog ρ := KCall.of_run try_ok memo0_ok (by kernel_rfl) (by kernel_rfl) (by kernel_rfl) CxKn07K8_run

end Go.Proofs.Ytlmoamafkjplbaa.Cx

/- acme/acmelaw07.known returns true, in every world that holds what the listed variables hold: by the evaluator, its heavy calls by runs of their own. Made by tools/cxkcalls.py. -/
namespace Go.Proofs.Ytlmoamafkjplbaa.Cx
set_option maxRecDepth 100000
set_option linter.unusedVariables false
open Go Go.Proofs Go.RowKit
noncomputable def CxKn07C : Ctx := ctxOf Try.prog (memoK CxKn07K0 (memoK CxKn07K1 (memoK CxKn07K2 (memoK CxKn07K3 (memoK CxKn07K4 (memoK CxKn07K5 (memoK CxKn07K6 (memoK CxKn07K7 (memoK CxKn07K8 memo0)))))))))
theorem CxKn07_run : isTrue (eval CxKn07C 1000 0 (.call 14 []) .empty) = true := by kernel_rfl
theorem CxKn07_known : KnownB Try.prog 14 := known_of try_ok (memoK_ok CxKn07K0_ok (memoK_ok CxKn07K1_ok (memoK_ok CxKn07K2_ok (memoK_ok CxKn07K3_ok (memoK_ok CxKn07K4_ok (memoK_ok CxKn07K5_ok (memoK_ok CxKn07K6_ok (memoK_ok CxKn07K7_ok (memoK_ok CxKn07K8_ok memo0_ok))))))))) (by kernel_rfl) CxKn07_run
end Go.Proofs.Ytlmoamafkjplbaa.Cx
