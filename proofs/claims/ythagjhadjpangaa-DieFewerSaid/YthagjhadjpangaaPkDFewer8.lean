/- acme/acmelaw07.DieFewer as an automaton. Made by tools/cxauto.py. -/
import Derived.Test.YthagjhadjpangaaPkDFewer7

namespace Go.Proofs.Ythagjhadjpangaa.Cx
set_option linter.unusedVariables false
set_option linter.unusedSimpArgs false
set_option maxRecDepth 100000
open Go Go.Proofs Go.RowKit
noncomputable abbrev dlfCode : Code := funcCode Try.f9
inductive dlfN where
  | n0 (p0 : Nat) (p1 : Int) (p2 : Nat) (p3 : Bool) (p4 p5 p6 p7 : Int) (p8 : Nat) (p9 p10 p11 p12 p13 p14 p15 p16 : Nat → Int)
  | n1 (p0 : Nat) (p1 : Int) (p2 : Nat) (p3 : Int) (p4 : Bool) (p5 p6 p7 p8 : Int) (p9 p10 : Nat) (p11 p12 p13 p14 : Nat → Int) (p15 : Nat) (p16 p17 : Nat → Int) (p18 : Nat) (p19 p20 : Nat → Int)
  | n2 (p0 : Nat) (p1 : Int) (p2 p3 : Nat) (p4 : Int) (p5 : Bool) (p6 p7 p8 p9 : Int) (p10 p11 : Nat) (p12 p13 p14 p15 : Nat → Int) (p16 : Nat) (p17 p18 p19 : Nat → Int) (p20 : Nat) (p21 p22 : Nat → Int)
  | n3 (p0 : Nat) (p1 : Int) (p2 : Nat) (p3 : Int) (p4 : Nat) (p5 p6 : Int) (p7 : Bool) (p8 p9 p10 p11 : Int) (p12 p13 : Nat) (p14 p15 p16 p17 : Nat → Int) (p18 : Nat) (p19 p20 p21 p22 : Nat → Int) (p23 : Nat) (p24 p25 : Nat → Int)
abbrev dlfR := Bool
noncomputable def dlfD0 (a0 : Bool) (a1 a2 : Int) (a3 : Nat) (a4 a5 : Nat → Int) (a6 : Nat) (a7 a8 a9 a10 : Nat → Int) (a11 : Nat) (a12 : Nat → Int) (a13 : Nat) (a14 a15 : Nat → Int) : DD (Lf dlfN dlfR) :=
 let z0 := decide (0 + a3 ≤ a3)
 let z1 := fun i => [CV.int IntKind.u8 (IE.x (a4 (0 + i))), CV.int IntKind.u8 (IE.x (a5 (0 + i)))]
 let z2 := ShapeOk [some IntKind.u8, some IntKind.u8] (tabOf a3 z1) z1
 let z3 := decide (0 + a6 ≤ a6)
 let z4 := fun i => [CV.int IntKind.u8 (IE.x (a7 (0 + i))), CV.int IntKind.u8 (IE.x (a8 (0 + i))), CV.int IntKind.u8 (IE.x (a9 (0 + i))), CV.int IntKind.u8 (IE.x (a10 (0 + i)))]
 let z5 := ShapeOk [some IntKind.u8, some IntKind.u8, some IntKind.u8, some IntKind.u8] (tabOf a6 z4) z4
 let z6 := decide (0 + a11 ≤ a11)
 let z7 := fun i => [CV.int IntKind.u8 (IE.x (a12 (0 + i)))]
 let z8 := ShapeOk [some IntKind.u8] (tabOf a11 z7) z7
 let z9 := fun i => a4 (0 + i)
 let z10 := fun i => a5 (0 + i)
 let z11 := fun i => a7 (0 + i)
 let z12 := fun i => a8 (0 + i)
 let z13 := fun i => a9 (0 + i)
 let z14 := fun i => a10 (0 + i)
 let z15 := fun i => a12 (0 + i)
 let z16 := dtoA a0 a1 a2 a3 z9 z10 a6 z11 z12 z13 z14 a11 z15
 let z17 := dosA a0 a1 a2 a3 z9 z10 a6 z11 z12 z13 z14 a11 z15
 let z18 := AF.val z17
 let z19 := decide (0 + dosw0 z18 ≤ dosw0 z18)
 let z20 := dosw0 z18
 let z21 := fun i => [CV.int IntKind.i64 (IE.x (dosw1 z18 (0 + i))), CV.int IntKind.i64 (IE.x (dosw2 z18 (0 + i))), CV.int IntKind.i64 (IE.x (dosw3 z18 (0 + i))), CV.int IntKind.i64 (IE.x (dosw4 z18 (0 + i)))]
 let z22 := dalA z20 (fun i => dosw1 z18 (0 + i)) (fun i => dosw2 z18 (0 + i)) (fun i => dosw3 z18 (0 + i)) (fun i => dosw4 z18 (0 + i))
 let z23 := AF.val z16
 let z24 := decide (0 + dtow5 z23 ≤ dtow5 z23)
 let z25 := decide (dtow5 z23 ≤ 10000)
 let z26 := decide (dosw0 z18 ≤ 10000)
 let z27 := dtow5 z23
 let z28 := fun i => [CV.int IntKind.i64 (IE.x (dtow6 z23 (0 + (0 + i)))), CV.int IntKind.i64 (IE.x (dtow7 z23 (0 + (0 + i))))]
 let z29 := ShapeOk [some IntKind.i64, some IntKind.i64] (tabOf z27 z28) z28
 let z30 := decide (dtow5 z23 ≤ dtow5 z23)
 let z31 := fun i => [CV.int IntKind.i64 (IE.x (dosw1 z18 (0 + (0 + i)))), CV.int IntKind.i64 (IE.x (dosw2 z18 (0 + (0 + i)))), CV.int IntKind.i64 (IE.x (dosw3 z18 (0 + (0 + i)))), CV.int IntKind.i64 (IE.x (dosw4 z18 (0 + (0 + i))))]
 let z32 := ShapeOk [some IntKind.i64, some IntKind.i64, some IntKind.i64, some IntKind.i64] (tabOf z20 z31) z31
 let z33 := decide (dosw0 z18 ≤ dosw0 z18)
 let z34 := dtow0 z23
 let z35 := dtow1 z23
 let z36 := dtow2 z23
 let z37 := dtow3 z23
 let z38 := dtow4 z23
 let z39 := fun i => dtow6 z23 (0 + (0 + i))
 let z40 := fun i => dtow7 z23 (0 + (0 + i))
 let z41 := fun i => dosw1 z18 (0 + (0 + i))
 let z42 := fun i => dosw2 z18 (0 + (0 + i))
 let z43 := fun i => dosw3 z18 (0 + (0 + i))
 let z44 := fun i => dosw4 z18 (0 + (0 + i))
 let z45 := dplA z34 z35 z36 z37 z38 z27 z39 z40 z20 z41 z42 z43 z44
 let z46 := AF.val z45
 let z47 := dplw1 z46
 let z48 := dmoA z34 z35 z36 z37 z38 z27 z39 z40 z20 z41 z42 z43 z44 1000
 let z49 := AF.val z48
 let z50 := AF.val z22
 .must z0
   (.must z2
   (.must z3
   (.must z5
   (.must z6
   (.must z8
   (.must (AF.fin z16)
   (.must z0
   (.must z2
   (.must z3
   (.must z5
   (.must z6
   (.must z8
   (.must (AF.fin z17)
   (.must z19
   (.must (ShapeOk [some IntKind.i64, some IntKind.i64, some IntKind.i64, some IntKind.i64] (tabOf z20 z21) z21)
   (.must (AF.fin z22)
   (.must z24
   (.must z25
   (.must z19
   (.must z26
   (.must z24
   (.must z29
   (.must z30
   (.must z19
   (.must z32
   (.must z33
   (.must (AF.fin z45)
   (.ask (Cm.run .neq z47 0)
   (.must z24
   (.must z25
   (.must z19
   (.must z26
   (.must z24
   (.must z29
   (.must z30
   (.must z19
   (.must z32
   (.must z33
   (.must (AF.fin z48)
   (.ask (Cm.run .eql z47 7)
   (.ask (Cm.run .eql (Prod.snd z49) 0)
   (.ask (Cm.run .lss (Prod.fst z49) z50)
   (.leaf (.done true []))
   (.leaf (.done false [])))
   (.leaf (.done false [])))
   (.leaf (.done false []))))))))))))))
   (.leaf (.next (.n0 z20 z50 (dplw0 z46) z34 z35 z36 z37 z38 z27 (fun i => dosw1 z18 i) (fun i => dosw2 z18 i) (fun i => dosw3 z18 i) (fun i => dosw4 z18 i) (fun i => dplw2 z46 i) (fun i => dplw3 z46 i) (fun i => dtow6 z23 i) (fun i => dtow7 z23 i)) [7, 6, 14, 15, 5]))))))))))))))))))))))))))))))

noncomputable def dlfD (a0 : Bool) (a1 a2 : Int) (a3 : Nat) (a4 a5 : Nat → Int) (a6 : Nat) (a7 a8 a9 a10 : Nat → Int) (a11 : Nat) (a12 : Nat → Int) (a13 : Nat) (a14 a15 : Nat → Int) : dlfN → DD (Lf dlfN dlfR)
 | .n0 p0 p1 p2 p3 p4 p5 p6 p7 p8 p9 p10 p11 p12 p13 p14 p15 p16 =>
 let z0 := fun i => p10 i
 let z1 := fun i => p11 i
 let z2 := fun i => p12 i
 let z3 := fun i => p13 i
 let z4 := fun i => p14 i
 let z5 := fun i => p15 i
 let z6 := fun i => p16 i
 let z7 := decide (0 + p8 ≤ p8)
 let z8 := decide (p8 ≤ 10000)
 let z9 := decide (0 + p0 ≤ p0)
 let z10 := decide (p0 ≤ 10000)
 let z11 := fun i => [CV.int IntKind.i64 (IE.x (p15 (0 + (0 + i)))), CV.int IntKind.i64 (IE.x (p16 (0 + (0 + i))))]
 let z12 := ShapeOk [some IntKind.i64, some IntKind.i64] (tabOf p8 z11) z11
 let z13 := decide (p8 ≤ p8)
 let z14 := fun i => [CV.int IntKind.i64 (IE.x (p9 (0 + (0 + i)))), CV.int IntKind.i64 (IE.x (p10 (0 + (0 + i)))), CV.int IntKind.i64 (IE.x (p11 (0 + (0 + i)))), CV.int IntKind.i64 (IE.x (p12 (0 + (0 + i))))]
 let z15 := ShapeOk [some IntKind.i64, some IntKind.i64, some IntKind.i64, some IntKind.i64] (tabOf p0 z14) z14
 let z16 := decide (p0 ≤ p0)
 let z17 := fun i => p15 (0 + (0 + i))
 let z18 := fun i => p16 (0 + (0 + i))
 let z19 := fun i => p9 (0 + (0 + i))
 let z20 := fun i => p10 (0 + (0 + i))
 let z21 := fun i => p11 (0 + (0 + i))
 let z22 := fun i => p12 (0 + (0 + i))
 let z23 := dprA p3 p4 p5 p6 p7 p8 z17 z18 p0 z19 z20 z21 z22 0 (fun i => List.getD (colI (List.length [some IntKind.i64]) 0 0 (List.drop 0 (rep 0 (TyR.zero { desc := TypeInfo.desc { desc := TypeDesc.int IntKind.i64, str := "int", size := 1, bytes := 8, hasPointers := false, align := 8, fieldAlign := 8, zero := some (Value.int IntKind.i64 0), comparable := true, methods := #[] }, size := TypeInfo.size (Tables.types (Program.toTables Try.prog))[3], bytes := TypeInfo.bytes (Tables.types (Program.toTables Try.prog))[3], zero := [CV.int IntKind.i64 (IE.c 0)], agg := match TypeInfo.desc { desc := TypeDesc.int IntKind.i64, str := "int", size := 1, bytes := 8, hasPointers := false, align := 8, fieldAlign := 8, zero := some (Value.int IntKind.i64 0), comparable := true, methods := #[] } with | TypeDesc.struct fields => true | TypeDesc.array len elem => true | x => false })))) i 0)
 let z24 := AF.val z23
 .ask (Cm.run .lss 0 (↑p2 : Int))
   (.must (true)
   (.must (decide (0 < (↑p2 : Int)))
   (.must (decide (0 + Int.toNat 0 < p2))
   (.leaf (.next (.n2 p0 p1 p2 1 1 p3 p4 p5 p6 p7 p8 p0 (fun i => p9 i) z0 z1 z2 p2 z3 z4 (fun i => p13 (0 + Int.toNat 0)) p8 z5 z6) [4, 5, 6, 10, 8])))))
   (.must z7
   (.must z8
   (.must z9
   (.must z10
   (.must z7
   (.must z12
   (.must z13
   (.must z9
   (.must z15
   (.must z16
   (.must (AF.fin z23)
   (.must z7
   (.must z8
   (.must z9
   (.must z10
   (.must z7
   (.must z12
   (.must z13
   (.must z9
   (.must z15
   (.must z16
   (.must (AF.fin (dmoA p3 p4 p5 p6 p7 p8 z17 z18 p0 z19 z20 z21 z22 (↑p2 : Int)))
   (.ask (Cm.run .neq (Prod.snd z24) 0)
   (.leaf (.done false []))
   (.ask (Cm.run .neq (Prod.fst z24) (-1))
   (.leaf (.done false []))
   (.ask (Cm.run .neq (Prod.snd (AF.val (dmoA p3 p4 p5 p6 p7 p8 z17 z18 p0 z19 z20 z21 z22 (↑p2 : Int)))) 0)
   (.leaf (.done false []))
   (.ask (Cm.run .neq (Prod.fst (AF.val (dmoA p3 p4 p5 p6 p7 p8 z17 z18 p0 z19 z20 z21 z22 (↑p2 : Int)))) p1)
   (.leaf (.done false []))
   (.ask (Cm.run .eql ((↑p2 : Int)) 0)
   (.leaf (.done false []))
   (.must z7
   (.must z8
   (.must z9
   (.must z10
   (.must z7
   (.must z12
   (.must z13
   (.must z9
   (.must z15
   (.must z16
   (.must (AF.fin (dmoA p3 p4 p5 p6 p7 p8 z17 z18 p0 z19 z20 z21 z22 (Ar.run .sub .i64 ((↑p2 : Int)) 1)))
   (.ask (Cm.run .neq (Prod.snd (AF.val (dmoA p3 p4 p5 p6 p7 p8 z17 z18 p0 z19 z20 z21 z22 (Ar.run .sub .i64 ((↑p2 : Int)) 1)))) 0)
   (.leaf (.done false []))
   (.ask (Cm.run .geq (Prod.fst (AF.val (dmoA p3 p4 p5 p6 p7 p8 z17 z18 p0 z19 z20 z21 z22 (Ar.run .sub .i64 ((↑p2 : Int)) 1)))) p1)
   (.leaf (.done false []))
   (.ask (Cm.run .lss (Prod.fst (AF.val (dmoA p3 p4 p5 p6 p7 p8 z17 z18 p0 z19 z20 z21 z22 (Ar.run .sub .i64 ((↑p2 : Int)) 1)))) 0)
   (.leaf (.done false []))
   (.leaf (.next (.n1 p0 p1 p2 (Prod.fst (AF.val (dmoA p3 p4 p5 p6 p7 p8 z17 z18 p0 z19 z20 z21 z22 (Ar.run .sub .i64 (↑p2) 1)))) p3 p4 p5 p6 p7 p8 p0 (fun i => p9 i) z0 z1 z2 p2 z3 z4 p8 z5 z6) [4, 5, 6, 28, 8])))))))))))))))))))))))))))))))))))))))))))
 | .n1 p0 p1 p2 p3 p4 p5 p6 p7 p8 p9 p10 p11 p12 p13 p14 p15 p16 p17 p18 p19 p20 =>
 let z0 := decide (0 + Int.toNat 0 < a13)
 let z1 := Ar.run .conv .i64 (a15 (0 + Int.toNat 0)) 0
 let z2 := decide (0 + p9 ≤ p18)
 let z3 := decide (p9 ≤ 10000)
 let z4 := decide (0 + p0 ≤ p10)
 let z5 := decide (p0 ≤ 10000)
 let z6 := decide (0 + p9 ≤ p9)
 let z7 := fun i => [CV.int IntKind.i64 (IE.x (p19 (0 + (0 + i)))), CV.int IntKind.i64 (IE.x (p20 (0 + (0 + i))))]
 let z8 := ShapeOk [some IntKind.i64, some IntKind.i64] (tabOf p9 z7) z7
 let z9 := decide (p9 ≤ p9)
 let z10 := decide (0 + p0 ≤ p0)
 let z11 := fun i => [CV.int IntKind.i64 (IE.x (p11 (0 + (0 + i)))), CV.int IntKind.i64 (IE.x (p12 (0 + (0 + i)))), CV.int IntKind.i64 (IE.x (p13 (0 + (0 + i)))), CV.int IntKind.i64 (IE.x (p14 (0 + (0 + i))))]
 let z12 := ShapeOk [some IntKind.i64, some IntKind.i64, some IntKind.i64, some IntKind.i64] (tabOf p0 z11) z11
 let z13 := decide (p0 ≤ p0)
 let z14 := fun i => p19 (0 + (0 + i))
 let z15 := fun i => p20 (0 + (0 + i))
 let z16 := fun i => p11 (0 + (0 + i))
 let z17 := fun i => p12 (0 + (0 + i))
 let z18 := fun i => p13 (0 + (0 + i))
 let z19 := fun i => p14 (0 + (0 + i))
 let z20 := draA p4 p5 p6 p7 p8 p9 z14 z15 p0 z16 z17 z18 z19 0
 let z21 := AF.val z20
 let z22 := Prod.fst z21
 let z23 := dtaA p4 p5 p6 p7 p8 p9 z14 z15 p0 z16 z17 z18 z19 0 z22
 let z24 := AF.val z23
 let z25 := Prod.snd z24
 let z26 := Prod.fst z24
 let z27 := Ar.run .add .i64 (Ar.run .sub .i64 (Prod.fst z25) z26) 1
 let z28 := Ar.run .add .i64 0 (Ar.run .add .i64 1 (Ar.run .rem .i64 (Ar.run .conv .i64 (a14 (0 + Int.toNat 0)) 0) 40))
 let z29 := fun i => p11 i
 let z30 := fun i => p12 i
 let z31 := fun i => p13 i
 let z32 := fun i => p14 i
 let z33 := fun i => p16 i
 let z34 := fun i => p17 i
 let z35 := fun i => p19 i
 let z36 := fun i => p20 i
 let z37 := fun i => Ar.run .add .i64 (p17 (0 + Int.toNat (Ar.run .rem .i64 z1 ↑p2))) (Ar.run .rem .i64 z1 3)
 let z38 := djuA p4 p5 p6 p7 p8 p9 z14 z15 p0 z16 z17 z18 z19 0 (fun i => List.getD (colI (List.length [some IntKind.i64, some IntKind.i64]) 0 0 (List.drop 0 [])) i 0) (fun i => List.getD (colI (List.length [some IntKind.i64, some IntKind.i64]) 1 0 (List.drop 0 [])) i 0)
 let z39 := AF.fin z38
 let z40 := AF.val z38
 let z41 := Cm.run .eql (Prod.snd z40) 0
 let z42 := Prod.fst z40
 let z43 := Cm.run .lss z42 p1
 let z44 := Cm.run .leq z42 p3
 .ask (Cm.run .lss 0 (↑a13 : Int))
   (.ask (Cm.run .lss 0 (Ar.run .sub .i64 ((↑p2 : Int)) 1))
   (.ask (Cm.run .lss 0 p1)
   (.must (true)
   (.must (decide (0 < (↑a13 : Int)))
   (.must z0
   (.must (Cm.run .neq ((↑p2 : Int)) 0)
   (.must (decide (0 ≤ Ar.run .rem .i64 z1 (↑p2 : Int)))
   (.must (decide (Ar.run .rem .i64 z1 (↑p2 : Int) < (↑p2 : Int)))
   (.must (decide (0 + Int.toNat (Ar.run .rem .i64 z1 (↑p2 : Int)) < p15))
   (.must (true)
   (.must (decide (0 < (↑a13 : Int)))
   (.must z0
   (.must z2
   (.must z3
   (.must z4
   (.must z5
   (.must z6
   (.must z8
   (.must z9
   (.must z10
   (.must z12
   (.must z13
   (.must (AF.fin z20)
   (.ask (Cm.run .eql (Prod.snd z21) 0)
   (.ask (Cm.run .gtr z22 0)
   (.must z2
   (.must z3
   (.must z4
   (.must z5
   (.must z6
   (.must z8
   (.must z9
   (.must z10
   (.must z12
   (.must z13
   (.must (AF.fin z23)
   (.ask (Cm.run .eql (Prod.snd z25) 0)
   (.must (true)
   (.must (decide (0 < (↑a13 : Int)))
   (.must z0
   (.must (Cm.run .neq z27 0)
   (.must (true)
   (.must (decide (0 < (↑a13 : Int)))
   (.must z0
   (.leaf (.next (.n3 p0 p1 p2 p3 1 z28 1 p4 p5 p6 p7 p8 p9 p10 z29 z30 z31 z32 p15 z33 z34 (fun i => 0) (fun i => Ar.run .add .i64 z26 (Ar.run .rem .i64 z1 z27)) p18 z35 z36) [4, 5, 6, 25, 8])))))))))
   (.must (true)
   (.must (decide (0 < (↑a13 : Int)))
   (.must z0
   (.leaf (.next (.n3 p0 p1 p2 p3 1 z28 1 p4 p5 p6 p7 p8 p9 p10 z29 z30 z31 z32 p15 z33 z34 (fun i => 0) z37 p18 z35 z36) [4, 5, 6, 24, 8])))))))))))))))))
   (.must (true)
   (.must (decide (0 < (↑a13 : Int)))
   (.must z0
   (.leaf (.next (.n3 p0 p1 p2 p3 1 z28 1 p4 p5 p6 p7 p8 p9 p10 z29 z30 z31 z32 p15 z33 z34 (fun i => 0) z37 p18 z35 z36) [4, 5, 6, 17, 8]))))))
   (.must (true)
   (.must (decide (0 < (↑a13 : Int)))
   (.must z0
   (.leaf (.next (.n3 p0 p1 p2 p3 1 z28 1 p4 p5 p6 p7 p8 p9 p10 z29 z30 z31 z32 p15 z33 z34 (fun i => 0) z37 p18 z35 z36) [4, 5, 6, 17, 8])))))))))))))))))))))))))))
   (.must z2
   (.must z3
   (.must z4
   (.must z5
   (.must z6
   (.must z8
   (.must z9
   (.must z10
   (.must z12
   (.must z13
   (.must z39
   (.ask z41
   (.ask z43
   (.ask z44
   (.leaf (.done true []))
   (.leaf (.done false [])))
   (.leaf (.done false [])))
   (.leaf (.done false [])))))))))))))))
   (.must z2
   (.must z3
   (.must z4
   (.must z5
   (.must z6
   (.must z8
   (.must z9
   (.must z10
   (.must z12
   (.must z13
   (.must z39
   (.ask z41
   (.ask z43
   (.ask z44
   (.leaf (.done true []))
   (.leaf (.done false [])))
   (.leaf (.done false [])))
   (.leaf (.done false [])))))))))))))))
   (.must z2
   (.must z3
   (.must z4
   (.must z5
   (.must z6
   (.must z8
   (.must z9
   (.must z10
   (.must z12
   (.must z13
   (.must z39
   (.ask z41
   (.ask z43
   (.ask z44
   (.leaf (.done true []))
   (.leaf (.done false [])))
   (.leaf (.done false [])))
   (.leaf (.done false []))))))))))))))
 | .n2 p0 p1 p2 p3 p4 p5 p6 p7 p8 p9 p10 p11 p12 p13 p14 p15 p16 p17 p18 p19 p20 p21 p22 =>
 let z0 := decide (0 + p3 ≤ p3)
 let z1 := fun i => p12 i
 let z2 := fun i => p13 i
 let z3 := fun i => p14 i
 let z4 := fun i => p15 i
 let z5 := fun i => p17 i
 let z6 := fun i => p18 i
 let z7 := fun i => p21 i
 let z8 := fun i => p22 i
 let z9 := decide (0 + p10 ≤ p20)
 let z10 := decide (p10 ≤ 10000)
 let z11 := decide (0 + p0 ≤ p11)
 let z12 := decide (p0 ≤ 10000)
 let z13 := decide (0 + p10 ≤ p10)
 let z14 := fun i => [CV.int IntKind.i64 (IE.x (p21 (0 + (0 + i)))), CV.int IntKind.i64 (IE.x (p22 (0 + (0 + i))))]
 let z15 := ShapeOk [some IntKind.i64, some IntKind.i64] (tabOf p10 z14) z14
 let z16 := decide (p10 ≤ p10)
 let z17 := decide (0 + p0 ≤ p0)
 let z18 := fun i => [CV.int IntKind.i64 (IE.x (p12 (0 + (0 + i)))), CV.int IntKind.i64 (IE.x (p13 (0 + (0 + i)))), CV.int IntKind.i64 (IE.x (p14 (0 + (0 + i)))), CV.int IntKind.i64 (IE.x (p15 (0 + (0 + i))))]
 let z19 := ShapeOk [some IntKind.i64, some IntKind.i64, some IntKind.i64, some IntKind.i64] (tabOf p0 z18) z18
 let z20 := decide (p0 ≤ p0)
 let z21 := fun i => [CV.int IntKind.i64 (IE.x (p19 (0 + (0 + i))))]
 let z22 := fun i => p21 (0 + (0 + i))
 let z23 := fun i => p22 (0 + (0 + i))
 let z24 := fun i => p12 (0 + (0 + i))
 let z25 := fun i => p13 (0 + (0 + i))
 let z26 := fun i => p14 (0 + (0 + i))
 let z27 := fun i => p15 (0 + (0 + i))
 let z28 := dprA p5 p6 p7 p8 p9 p10 z22 z23 p0 z24 z25 z26 z27 p3 (fun i => p19 (0 + (0 + i)))
 let z29 := AF.val z28
 .ask (Cm.run .lss p4 (↑p2 : Int))
   (.must (decide (0 ≤ p4))
   (.must (decide (p4 < (↑p2 : Int)))
   (.must (decide (0 + Int.toNat p4 < p16))
   (.must z0
   (.must (decide (p3 + 1 ≤ 10000))
   (.leaf (.next (.n2 p0 p1 p2 (p3 + 1) (Ar.run .add .i64 p4 1) p5 p6 p7 p8 p9 p10 p11 z1 z2 z3 z4 p16 z5 z6 (fun i => bif Nat.blt i p3 then p19 (0 + i) else p17 (0 + Int.toNat p4)) p20 z7 z8) [4, 5, 6, 10, 8])))))))
   (.must z9
   (.must z10
   (.must z11
   (.must z12
   (.must z0
   (.must (decide (p3 ≤ 10000))
   (.must z13
   (.must z15
   (.must z16
   (.must z17
   (.must z19
   (.must z20
   (.must z0
   (.must (ShapeOk [some IntKind.i64] (tabOf p3 z21) z21)
   (.must (decide (p3 ≤ p3))
   (.must (AF.fin z28)
   (.must z9
   (.must z10
   (.must z11
   (.must z12
   (.must z13
   (.must z15
   (.must z16
   (.must z17
   (.must z19
   (.must z20
   (.must (AF.fin (dmoA p5 p6 p7 p8 p9 p10 z22 z23 p0 z24 z25 z26 z27 (↑p2 : Int)))
   (.ask (Cm.run .neq (Prod.snd z29) 0)
   (.leaf (.done false []))
   (.ask (Cm.run .neq (Prod.fst z29) (-1))
   (.leaf (.done false []))
   (.ask (Cm.run .neq (Prod.snd (AF.val (dmoA p5 p6 p7 p8 p9 p10 z22 z23 p0 z24 z25 z26 z27 (↑p2 : Int)))) 0)
   (.leaf (.done false []))
   (.ask (Cm.run .neq (Prod.fst (AF.val (dmoA p5 p6 p7 p8 p9 p10 z22 z23 p0 z24 z25 z26 z27 (↑p2 : Int)))) p1)
   (.leaf (.done false []))
   (.ask (Cm.run .eql ((↑p2 : Int)) 0)
   (.leaf (.done false []))
   (.must z9
   (.must z10
   (.must z11
   (.must z12
   (.must z13
   (.must z15
   (.must z16
   (.must z17
   (.must z19
   (.must z20
   (.must (AF.fin (dmoA p5 p6 p7 p8 p9 p10 z22 z23 p0 z24 z25 z26 z27 (Ar.run .sub .i64 ((↑p2 : Int)) 1)))
   (.ask (Cm.run .neq (Prod.snd (AF.val (dmoA p5 p6 p7 p8 p9 p10 z22 z23 p0 z24 z25 z26 z27 (Ar.run .sub .i64 ((↑p2 : Int)) 1)))) 0)
   (.leaf (.done false []))
   (.ask (Cm.run .geq (Prod.fst (AF.val (dmoA p5 p6 p7 p8 p9 p10 z22 z23 p0 z24 z25 z26 z27 (Ar.run .sub .i64 ((↑p2 : Int)) 1)))) p1)
   (.leaf (.done false []))
   (.ask (Cm.run .lss (Prod.fst (AF.val (dmoA p5 p6 p7 p8 p9 p10 z22 z23 p0 z24 z25 z26 z27 (Ar.run .sub .i64 ((↑p2 : Int)) 1)))) 0)
   (.leaf (.done false []))
   (.leaf (.next (.n1 p0 p1 p2 (Prod.fst (AF.val (dmoA p5 p6 p7 p8 p9 p10 z22 z23 p0 z24 z25 z26 z27 (Ar.run .sub .i64 (↑p2) 1)))) p5 p6 p7 p8 p9 p10 p11 z1 z2 z3 z4 p16 z5 z6 p20 z7 z8) [4, 5, 6, 29, 8]))))))))))))))))))))))))))))))))))))))))))))))))
 | .n3 p0 p1 p2 p3 p4 p5 p6 p7 p8 p9 p10 p11 p12 p13 p14 p15 p16 p17 p18 p19 p20 p21 p22 p23 p24 p25 =>
 let z0 := decide (0 ≤ p6)
 let z1 := decide (0 + Int.toNat p6 < a13)
 let z2 := Ar.run .conv .i64 (a15 (0 + Int.toNat p6)) 0
 let z3 := decide (0 + p12 ≤ p23)
 let z4 := decide (p12 ≤ 10000)
 let z5 := decide (0 + p0 ≤ p13)
 let z6 := decide (p0 ≤ 10000)
 let z7 := decide (0 + p12 ≤ p12)
 let z8 := fun i => [CV.int IntKind.i64 (IE.x (p24 (0 + (0 + i)))), CV.int IntKind.i64 (IE.x (p25 (0 + (0 + i))))]
 let z9 := ShapeOk [some IntKind.i64, some IntKind.i64] (tabOf p12 z8) z8
 let z10 := decide (p12 ≤ p12)
 let z11 := decide (0 + p0 ≤ p0)
 let z12 := fun i => [CV.int IntKind.i64 (IE.x (p14 (0 + (0 + i)))), CV.int IntKind.i64 (IE.x (p15 (0 + (0 + i)))), CV.int IntKind.i64 (IE.x (p16 (0 + (0 + i)))), CV.int IntKind.i64 (IE.x (p17 (0 + (0 + i))))]
 let z13 := ShapeOk [some IntKind.i64, some IntKind.i64, some IntKind.i64, some IntKind.i64] (tabOf p0 z12) z12
 let z14 := decide (p0 ≤ p0)
 let z15 := fun i => p24 (0 + (0 + i))
 let z16 := fun i => p25 (0 + (0 + i))
 let z17 := fun i => p14 (0 + (0 + i))
 let z18 := fun i => p15 (0 + (0 + i))
 let z19 := fun i => p16 (0 + (0 + i))
 let z20 := fun i => p17 (0 + (0 + i))
 let z21 := draA p7 p8 p9 p10 p11 p12 z15 z16 p0 z17 z18 z19 z20 p5
 let z22 := AF.val z21
 let z23 := Prod.fst z22
 let z24 := dtaA p7 p8 p9 p10 p11 p12 z15 z16 p0 z17 z18 z19 z20 p5 z23
 let z25 := AF.val z24
 let z26 := Prod.snd z25
 let z27 := Prod.fst z25
 let z28 := Ar.run .add .i64 (Ar.run .sub .i64 (Prod.fst z26) z27) 1
 let z29 := decide (0 + p4 ≤ p4)
 let z30 := decide (p4 + 1 ≤ 10000)
 let z31 := Ar.run .add .i64 p5 (Ar.run .add .i64 1 (Ar.run .rem .i64 (Ar.run .conv .i64 (a14 (0 + Int.toNat p6)) 0) 40))
 let z32 := Ar.run .add .i64 p6 1
 let z33 := fun i => p14 i
 let z34 := fun i => p15 i
 let z35 := fun i => p16 i
 let z36 := fun i => p17 i
 let z37 := fun i => p19 i
 let z38 := fun i => p20 i
 let z39 := fun i => bif Nat.blt i p4 then p21 (0 + i) else p5
 let z40 := fun i => p24 i
 let z41 := fun i => p25 i
 let z42 := fun i => bif Nat.blt i p4 then p22 (0 + i) else Ar.run .add .i64 (p20 (0 + Int.toNat (Ar.run .rem .i64 z2 ↑p2))) (Ar.run .rem .i64 z2 3)
 let z43 := fun i => [CV.int IntKind.i64 (IE.x (p21 (0 + i))), CV.int IntKind.i64 (IE.x (p22 (0 + i)))]
 let z44 := ShapeOk [some IntKind.i64, some IntKind.i64] (tabOf p4 z43) z43
 let z45 := decide (p4 ≤ p4)
 let z46 := djuA p7 p8 p9 p10 p11 p12 z15 z16 p0 z17 z18 z19 z20 p4 (fun i => p21 (0 + i)) (fun i => p22 (0 + i))
 let z47 := AF.fin z46
 let z48 := AF.val z46
 let z49 := Cm.run .eql (Prod.snd z48) 0
 let z50 := Prod.fst z48
 let z51 := Cm.run .lss z50 p1
 let z52 := Cm.run .leq z50 p3
 .ask (Cm.run .lss p6 (↑a13 : Int))
   (.ask (Cm.run .lss ((↑p4 : Int)) (Ar.run .sub .i64 ((↑p2 : Int)) 1))
   (.ask (Cm.run .lss p5 p1)
   (.must z0
   (.must (decide (p6 < (↑a13 : Int)))
   (.must z1
   (.must (Cm.run .neq ((↑p2 : Int)) 0)
   (.must (decide (0 ≤ Ar.run .rem .i64 z2 (↑p2 : Int)))
   (.must (decide (Ar.run .rem .i64 z2 (↑p2 : Int) < (↑p2 : Int)))
   (.must (decide (0 + Int.toNat (Ar.run .rem .i64 z2 (↑p2 : Int)) < p18))
   (.must z0
   (.must (decide (p6 < (↑a13 : Int)))
   (.must z1
   (.must z3
   (.must z4
   (.must z5
   (.must z6
   (.must z7
   (.must z9
   (.must z10
   (.must z11
   (.must z13
   (.must z14
   (.must (AF.fin z21)
   (.ask (Cm.run .eql (Prod.snd z22) 0)
   (.ask (Cm.run .gtr z23 p5)
   (.must z3
   (.must z4
   (.must z5
   (.must z6
   (.must z7
   (.must z9
   (.must z10
   (.must z11
   (.must z13
   (.must z14
   (.must (AF.fin z24)
   (.ask (Cm.run .eql (Prod.snd z26) 0)
   (.must z0
   (.must (decide (p6 < (↑a13 : Int)))
   (.must z1
   (.must (Cm.run .neq z28 0)
   (.must z29
   (.must z30
   (.must z0
   (.must (decide (p6 < (↑a13 : Int)))
   (.must z1
   (.leaf (.next (.n3 p0 p1 p2 p3 (p4 + 1) z31 z32 p7 p8 p9 p10 p11 p12 p13 z33 z34 z35 z36 p18 z37 z38 z39 (fun i => bif Nat.blt i p4 then p22 (0 + i) else Ar.run .add .i64 z27 (Ar.run .rem .i64 z2 z28)) p23 z40 z41) [4, 5, 6, 25, 8])))))))))))
   (.must z29
   (.must z30
   (.must z0
   (.must (decide (p6 < (↑a13 : Int)))
   (.must z1
   (.leaf (.next (.n3 p0 p1 p2 p3 (p4 + 1) z31 z32 p7 p8 p9 p10 p11 p12 p13 z33 z34 z35 z36 p18 z37 z38 z39 z42 p23 z40 z41) [4, 5, 6, 24, 8])))))))))))))))))))
   (.must z29
   (.must z30
   (.must z0
   (.must (decide (p6 < (↑a13 : Int)))
   (.must z1
   (.leaf (.next (.n3 p0 p1 p2 p3 (p4 + 1) z31 z32 p7 p8 p9 p10 p11 p12 p13 z33 z34 z35 z36 p18 z37 z38 z39 z42 p23 z40 z41) [4, 5, 6, 17, 8]))))))))
   (.must z29
   (.must z30
   (.must z0
   (.must (decide (p6 < (↑a13 : Int)))
   (.must z1
   (.leaf (.next (.n3 p0 p1 p2 p3 (p4 + 1) z31 z32 p7 p8 p9 p10 p11 p12 p13 z33 z34 z35 z36 p18 z37 z38 z39 z42 p23 z40 z41) [4, 5, 6, 17, 8])))))))))))))))))))))))))))))
   (.must z3
   (.must z4
   (.must z5
   (.must z6
   (.must z7
   (.must z9
   (.must z10
   (.must z11
   (.must z13
   (.must z14
   (.must z29
   (.must z44
   (.must z45
   (.must z47
   (.ask z49
   (.ask z51
   (.ask z52
   (.leaf (.done true []))
   (.leaf (.done false [])))
   (.leaf (.done false [])))
   (.leaf (.done false []))))))))))))))))))
   (.must z3
   (.must z4
   (.must z5
   (.must z6
   (.must z7
   (.must z9
   (.must z10
   (.must z11
   (.must z13
   (.must z14
   (.must z29
   (.must z44
   (.must z45
   (.must z47
   (.ask z49
   (.ask z51
   (.ask z52
   (.leaf (.done true []))
   (.leaf (.done false [])))
   (.leaf (.done false [])))
   (.leaf (.done false []))))))))))))))))))
   (.must z3
   (.must z4
   (.must z5
   (.must z6
   (.must z7
   (.must z9
   (.must z10
   (.must z11
   (.must z13
   (.must z14
   (.must z29
   (.must z44
   (.must z45
   (.must z47
   (.ask z49
   (.ask z51
   (.ask z52
   (.leaf (.done true []))
   (.leaf (.done false [])))
   (.leaf (.done false [])))
   (.leaf (.done false [])))))))))))))))))

noncomputable def dlfA (a0 : Bool) (a1 a2 : Int) (a3 : Nat) (a4 a5 : Nat → Int) (a6 : Nat) (a7 a8 a9 a10 : Nat → Int) (a11 : Nat) (a12 : Nat → Int) (a13 : Nat) (a14 a15 : Nat → Int) : AF dlfN dlfR where
  code := dlfCode
  base := 4
  nt := 263
  m := 400
  un := []
  W := []
  h0 := [(0, ⟨.arg a3 2 (fun i => [.int .u8 (.x (a4 i)), .int .u8 (.x (a5 i))]) (fun _ => ⟨rfl, rfl⟩), 2, true, none⟩), (1, ⟨.arg a6 4 (fun i => [.int .u8 (.x (a7 i)), .int .u8 (.x (a8 i)), .int .u8 (.x (a9 i)), .int .u8 (.x (a10 i))]) (fun _ => ⟨rfl, rfl⟩), 4, true, none⟩), (2, ⟨.arg a11 1 (fun i => [.int .u8 (.x (a12 i))]) (fun _ => ⟨rfl, rfl⟩), 1, true, none⟩), (3, ⟨.arg a13 2 (fun i => [.int .u8 (.x (a14 i)), .int .u8 (.x (a15 i))]) (fun _ => ⟨rfl, rfl⟩), 2, true, none⟩)]
  args := [.agg [.bool (.x a0), .int .u8 (.x a1), .int .u8 (.x a2), .sla 0 2 0 a3, .sla 1 4 0 a6, .sla 2 1 0 a11], .sla 3 2 0 a13]
  res := (Try.f9).results.toList
  path := fun a => match a with
   | .n0 p0 p1 p2 p3 p4 p5 p6 p7 p8 p9 p10 p11 p12 p13 p14 p15 p16 => [1, 1, 1, 1, 1, 1, 0, 1, 0]
   | .n1 p0 p1 p2 p3 p4 p5 p6 p7 p8 p9 p10 p11 p12 p13 p14 p15 p16 p17 p18 p19 p20 => [1, 1, 1, 1, 1, 1, 1, 1, 1, 1, 1, 1, 1, 0, 1, 0]
   | .n2 p0 p1 p2 p3 p4 p5 p6 p7 p8 p9 p10 p11 p12 p13 p14 p15 p16 p17 p18 p19 p20 p21 p22 => [1, 1, 1, 1, 1, 1, 0, 1, 0]
   | .n3 p0 p1 p2 p3 p4 p5 p6 p7 p8 p9 p10 p11 p12 p13 p14 p15 p16 p17 p18 p19 p20 p21 p22 p23 p24 p25 => [1, 1, 1, 1, 1, 1, 1, 1, 1, 1, 1, 1, 1, 0, 1, 0]
  pd := fun a => match a with
   | .n0 p0 p1 p2 p3 p4 p5 p6 p7 p8 p9 p10 p11 p12 p13 p14 p15 p16 => ⟨[(1, .sla 3 2 0 a13), (5, .ptr (some (4, 0))), (6, .sla 5 4 0 p0), (7, .int .i64 (.x p1)), (8, .sla 6 2 0 p2), (12, .slc (some (7, 0)) 0 0), (13, .int .i64 (.x 0))], [(4, ⟨.lit [.bool (.x p3), .int .i64 (.x p4), .int .i64 (.x p5), .int .i64 (.x p6), .int .i64 (.x p7), .sla 8 2 0 p8], 0, true, none⟩), (5, ⟨.rows p0 4 (fun i => [.int .i64 (.x (p9 i)), .int .i64 (.x (p10 i)), .int .i64 (.x (p11 i)), .int .i64 (.x (p12 i))]) (fun _ => ⟨rfl, rfl⟩), 4, true, none⟩), (6, ⟨.rows p2 2 (fun i => [.int .i64 (.x (p13 i)), .int .i64 (.x (p14 i))]) (fun _ => ⟨rfl, rfl⟩), 2, true, none⟩), (7, ⟨.lit [], 1, true, none⟩), (8, ⟨.rows p8 2 (fun i => [.int .i64 (.x (p15 i)), .int .i64 (.x (p16 i))]) (fun _ => ⟨rfl, rfl⟩), 2, true, none⟩)], 9, []⟩
   | .n1 p0 p1 p2 p3 p4 p5 p6 p7 p8 p9 p10 p11 p12 p13 p14 p15 p16 p17 p18 p19 p20 => ⟨[(1, .sla 3 2 0 a13), (5, .ptr (some (4, 0))), (6, .sla 5 4 0 p0), (7, .int .i64 (.x p1)), (8, .sla 6 2 0 p2), (18, .int .i64 (.x p3)), (20, .slc (some (7, 0)) 0 0), (21, .int .i64 (.x 0)), (22, .int .i64 (.x 0))], [(4, ⟨.lit [.bool (.x p4), .int .i64 (.x p5), .int .i64 (.x p6), .int .i64 (.x p7), .int .i64 (.x p8), .sla 8 2 0 p9], 0, true, none⟩), (5, ⟨.rows p10 4 (fun i => [.int .i64 (.x (p11 i)), .int .i64 (.x (p12 i)), .int .i64 (.x (p13 i)), .int .i64 (.x (p14 i))]) (fun _ => ⟨rfl, rfl⟩), 4, true, none⟩), (6, ⟨.rows p15 2 (fun i => [.int .i64 (.x (p16 i)), .int .i64 (.x (p17 i))]) (fun _ => ⟨rfl, rfl⟩), 2, true, none⟩), (7, ⟨.lit [], 2, true, none⟩), (8, ⟨.rows p18 2 (fun i => [.int .i64 (.x (p19 i)), .int .i64 (.x (p20 i))]) (fun _ => ⟨rfl, rfl⟩), 2, true, none⟩)], 9, []⟩
   | .n2 p0 p1 p2 p3 p4 p5 p6 p7 p8 p9 p10 p11 p12 p13 p14 p15 p16 p17 p18 p19 p20 p21 p22 => ⟨[(1, .sla 3 2 0 a13), (5, .ptr (some (4, 0))), (6, .sla 5 4 0 p0), (7, .int .i64 (.x p1)), (8, .sla 6 2 0 p2), (12, .slx 7 1 0 p3 p3), (13, .int .i64 (.x p4))], [(4, ⟨.lit [.bool (.x p5), .int .i64 (.x p6), .int .i64 (.x p7), .int .i64 (.x p8), .int .i64 (.x p9), .sla 8 2 0 p10], 0, true, none⟩), (5, ⟨.rows p11 4 (fun i => [.int .i64 (.x (p12 i)), .int .i64 (.x (p13 i)), .int .i64 (.x (p14 i)), .int .i64 (.x (p15 i))]) (fun _ => ⟨rfl, rfl⟩), 4, true, none⟩), (6, ⟨.rows p16 2 (fun i => [.int .i64 (.x (p17 i)), .int .i64 (.x (p18 i))]) (fun _ => ⟨rfl, rfl⟩), 2, true, none⟩), (7, ⟨.rows p3 1 (fun i => [.int .i64 (.x (p19 i))]) (fun _ => ⟨rfl, rfl⟩), 1, true, none⟩), (8, ⟨.rows p20 2 (fun i => [.int .i64 (.x (p21 i)), .int .i64 (.x (p22 i))]) (fun _ => ⟨rfl, rfl⟩), 2, true, none⟩)], 9, []⟩
   | .n3 p0 p1 p2 p3 p4 p5 p6 p7 p8 p9 p10 p11 p12 p13 p14 p15 p16 p17 p18 p19 p20 p21 p22 p23 p24 p25 => ⟨[(1, .sla 3 2 0 a13), (5, .ptr (some (4, 0))), (6, .sla 5 4 0 p0), (7, .int .i64 (.x p1)), (8, .sla 6 2 0 p2), (18, .int .i64 (.x p3)), (20, .slx 7 2 0 p4 p4), (21, .int .i64 (.x p5)), (22, .int .i64 (.x p6))], [(4, ⟨.lit [.bool (.x p7), .int .i64 (.x p8), .int .i64 (.x p9), .int .i64 (.x p10), .int .i64 (.x p11), .sla 8 2 0 p12], 0, true, none⟩), (5, ⟨.rows p13 4 (fun i => [.int .i64 (.x (p14 i)), .int .i64 (.x (p15 i)), .int .i64 (.x (p16 i)), .int .i64 (.x (p17 i))]) (fun _ => ⟨rfl, rfl⟩), 4, true, none⟩), (6, ⟨.rows p18 2 (fun i => [.int .i64 (.x (p19 i)), .int .i64 (.x (p20 i))]) (fun _ => ⟨rfl, rfl⟩), 2, true, none⟩), (7, ⟨.rows p4 2 (fun i => [.int .i64 (.x (p21 i)), .int .i64 (.x (p22 i))]) (fun _ => ⟨rfl, rfl⟩), 2, true, none⟩), (8, ⟨.rows p23 2 (fun i => [.int .i64 (.x (p24 i)), .int .i64 (.x (p25 i))]) (fun _ => ⟨rfl, rfl⟩), 2, true, none⟩)], 9, []⟩
  D0 := dlfD0 a0 a1 a2 a3 a4 a5 a6 a7 a8 a9 a10 a11 a12 a13 a14 a15
  D := dlfD a0 a1 a2 a3 a4 a5 a6 a7 a8 a9 a10 a11 a12 a13 a14 a15
  rc := (fun v => .bool (.x v))
  rh := (fun v => [])
  rn := (fun v => 4)
  rx := (fun v => [])
  rgo := (fun _ => none)
theorem dlfstart (a0 : Bool) (a1 a2 : Int) (a3 : Nat) (a4 a5 : Nat → Int) (a6 : Nat) (a7 a8 a9 a10 : Nat → Int) (a11 : Nat) (a12 : Nat → Int) (a13 : Nat) (a14 a15 : Nat → Int) : AF.edgeOk (dlfA a0 a1 a2 a3 a4 a5 a6 a7 a8 a9 a10 a11 a12 a13 a14 a15) (ctxOf Try.prog memo0) (dlfD0 a0 a1 a2 a3 a4 a5 a6 a7 a8 a9 a10 a11 a12 a13 a14 a15) (AF.run0 (dlfA a0 a1 a2 a3 a4 a5 a6 a7 a8 a9 a10 a11 a12 a13 a14 a15) (ctxOf Try.prog (memoS 26 dplP dplF dplW dplH 3 (memoS 30 dmoP dmoF dmoW dmoH 2 (memoS 35 dprP dprF dprW dprH 3 (memoS 34 djuP djuF djuW djuH 3 (memoS 25 draP draF draW draH 2 (memoS 19 dtaP dtaF dtaW dtaH 2 (memoS 48 dtoP dtoF dtoW dtoH 4 (memoS 49 dosP dosF dosW dosH 4 (memoS 50 dalP dalF dalW dalH 1 (memoB [14])))))))))))) := by unfold AF.edgeOk; kernel_rfl
theorem dlfnode0 (a0 : Bool) (a1 a2 : Int) (a3 : Nat) (a4 a5 : Nat → Int) (a6 : Nat) (a7 a8 a9 a10 : Nat → Int) (a11 : Nat) (a12 : Nat → Int) (a13 : Nat) (a14 a15 : Nat → Int) (p0 : Nat) (p1 : Int) (p2 : Nat) (p3 : Bool) (p4 p5 p6 p7 : Int) (p8 : Nat) (p9 p10 p11 p12 p13 p14 p15 p16 : Nat → Int) : AF.edgeOk (dlfA a0 a1 a2 a3 a4 a5 a6 a7 a8 a9 a10 a11 a12 a13 a14 a15) (ctxOf Try.prog memo0) (dlfD a0 a1 a2 a3 a4 a5 a6 a7 a8 a9 a10 a11 a12 a13 a14 a15 (.n0 p0 p1 p2 p3 p4 p5 p6 p7 p8 p9 p10 p11 p12 p13 p14 p15 p16)) (AF.runN (dlfA a0 a1 a2 a3 a4 a5 a6 a7 a8 a9 a10 a11 a12 a13 a14 a15) (ctxOf Try.prog (memoS 26 dplP dplF dplW dplH 3 (memoS 30 dmoP dmoF dmoW dmoH 2 (memoS 35 dprP dprF dprW dprH 3 (memoS 34 djuP djuF djuW djuH 3 (memoS 25 draP draF draW draH 2 (memoS 19 dtaP dtaF dtaW dtaH 2 (memoS 48 dtoP dtoF dtoW dtoH 4 (memoS 49 dosP dosF dosW dosH 4 (memoS 50 dalP dalF dalW dalH 1 (memoB [14]))))))))))) (.n0 p0 p1 p2 p3 p4 p5 p6 p7 p8 p9 p10 p11 p12 p13 p14 p15 p16)) := by unfold AF.edgeOk; kernel_rfl
theorem dlfnode1 (a0 : Bool) (a1 a2 : Int) (a3 : Nat) (a4 a5 : Nat → Int) (a6 : Nat) (a7 a8 a9 a10 : Nat → Int) (a11 : Nat) (a12 : Nat → Int) (a13 : Nat) (a14 a15 : Nat → Int) (p0 : Nat) (p1 : Int) (p2 : Nat) (p3 : Int) (p4 : Bool) (p5 p6 p7 p8 : Int) (p9 p10 : Nat) (p11 p12 p13 p14 : Nat → Int) (p15 : Nat) (p16 p17 : Nat → Int) (p18 : Nat) (p19 p20 : Nat → Int) : AF.edgeOk (dlfA a0 a1 a2 a3 a4 a5 a6 a7 a8 a9 a10 a11 a12 a13 a14 a15) (ctxOf Try.prog memo0) (dlfD a0 a1 a2 a3 a4 a5 a6 a7 a8 a9 a10 a11 a12 a13 a14 a15 (.n1 p0 p1 p2 p3 p4 p5 p6 p7 p8 p9 p10 p11 p12 p13 p14 p15 p16 p17 p18 p19 p20)) (AF.runN (dlfA a0 a1 a2 a3 a4 a5 a6 a7 a8 a9 a10 a11 a12 a13 a14 a15) (ctxOf Try.prog (memoS 26 dplP dplF dplW dplH 3 (memoS 30 dmoP dmoF dmoW dmoH 2 (memoS 35 dprP dprF dprW dprH 3 (memoS 34 djuP djuF djuW djuH 3 (memoS 25 draP draF draW draH 2 (memoS 19 dtaP dtaF dtaW dtaH 2 (memoS 48 dtoP dtoF dtoW dtoH 4 (memoS 49 dosP dosF dosW dosH 4 (memoS 50 dalP dalF dalW dalH 1 (memoB [14]))))))))))) (.n1 p0 p1 p2 p3 p4 p5 p6 p7 p8 p9 p10 p11 p12 p13 p14 p15 p16 p17 p18 p19 p20)) := by unfold AF.edgeOk; kernel_rfl
theorem dlfnode2 (a0 : Bool) (a1 a2 : Int) (a3 : Nat) (a4 a5 : Nat → Int) (a6 : Nat) (a7 a8 a9 a10 : Nat → Int) (a11 : Nat) (a12 : Nat → Int) (a13 : Nat) (a14 a15 : Nat → Int) (p0 : Nat) (p1 : Int) (p2 p3 : Nat) (p4 : Int) (p5 : Bool) (p6 p7 p8 p9 : Int) (p10 p11 : Nat) (p12 p13 p14 p15 : Nat → Int) (p16 : Nat) (p17 p18 p19 : Nat → Int) (p20 : Nat) (p21 p22 : Nat → Int) : AF.edgeOk (dlfA a0 a1 a2 a3 a4 a5 a6 a7 a8 a9 a10 a11 a12 a13 a14 a15) (ctxOf Try.prog memo0) (dlfD a0 a1 a2 a3 a4 a5 a6 a7 a8 a9 a10 a11 a12 a13 a14 a15 (.n2 p0 p1 p2 p3 p4 p5 p6 p7 p8 p9 p10 p11 p12 p13 p14 p15 p16 p17 p18 p19 p20 p21 p22)) (AF.runN (dlfA a0 a1 a2 a3 a4 a5 a6 a7 a8 a9 a10 a11 a12 a13 a14 a15) (ctxOf Try.prog (memoS 26 dplP dplF dplW dplH 3 (memoS 30 dmoP dmoF dmoW dmoH 2 (memoS 35 dprP dprF dprW dprH 3 (memoS 34 djuP djuF djuW djuH 3 (memoS 25 draP draF draW draH 2 (memoS 19 dtaP dtaF dtaW dtaH 2 (memoS 48 dtoP dtoF dtoW dtoH 4 (memoS 49 dosP dosF dosW dosH 4 (memoS 50 dalP dalF dalW dalH 1 (memoB [14]))))))))))) (.n2 p0 p1 p2 p3 p4 p5 p6 p7 p8 p9 p10 p11 p12 p13 p14 p15 p16 p17 p18 p19 p20 p21 p22)) := by unfold AF.edgeOk; kernel_rfl
theorem dlfnode3 (a0 : Bool) (a1 a2 : Int) (a3 : Nat) (a4 a5 : Nat → Int) (a6 : Nat) (a7 a8 a9 a10 : Nat → Int) (a11 : Nat) (a12 : Nat → Int) (a13 : Nat) (a14 a15 : Nat → Int) (p0 : Nat) (p1 : Int) (p2 : Nat) (p3 : Int) (p4 : Nat) (p5 p6 : Int) (p7 : Bool) (p8 p9 p10 p11 : Int) (p12 p13 : Nat) (p14 p15 p16 p17 : Nat → Int) (p18 : Nat) (p19 p20 p21 p22 : Nat → Int) (p23 : Nat) (p24 p25 : Nat → Int) : AF.edgeOk (dlfA a0 a1 a2 a3 a4 a5 a6 a7 a8 a9 a10 a11 a12 a13 a14 a15) (ctxOf Try.prog memo0) (dlfD a0 a1 a2 a3 a4 a5 a6 a7 a8 a9 a10 a11 a12 a13 a14 a15 (.n3 p0 p1 p2 p3 p4 p5 p6 p7 p8 p9 p10 p11 p12 p13 p14 p15 p16 p17 p18 p19 p20 p21 p22 p23 p24 p25)) (AF.runN (dlfA a0 a1 a2 a3 a4 a5 a6 a7 a8 a9 a10 a11 a12 a13 a14 a15) (ctxOf Try.prog (memoS 26 dplP dplF dplW dplH 3 (memoS 30 dmoP dmoF dmoW dmoH 2 (memoS 35 dprP dprF dprW dprH 3 (memoS 34 djuP djuF djuW djuH 3 (memoS 25 draP draF draW draH 2 (memoS 19 dtaP dtaF dtaW dtaH 2 (memoS 48 dtoP dtoF dtoW dtoH 4 (memoS 49 dosP dosF dosW dosH 4 (memoS 50 dalP dalF dalW dalH 1 (memoB [14]))))))))))) (.n3 p0 p1 p2 p3 p4 p5 p6 p7 p8 p9 p10 p11 p12 p13 p14 p15 p16 p17 p18 p19 p20 p21 p22 p23 p24 p25)) := by unfold AF.edgeOk; kernel_rfl
theorem dlfok (a0 : Bool) (a1 a2 : Int) (a3 : Nat) (a4 a5 : Nat → Int) (a6 : Nat) (a7 a8 a9 a10 : Nat → Int) (a11 : Nat) (a12 : Nat → Int) (a13 : Nat) (a14 a15 : Nat → Int) : (dlfA a0 a1 a2 a3 a4 a5 a6 a7 a8 a9 a10 a11 a12 a13 a14 a15).Ok Try.prog (ctxOf Try.prog (memoS 26 dplP dplF dplW dplH 3 (memoS 30 dmoP dmoF dmoW dmoH 2 (memoS 35 dprP dprF dprW dprH 3 (memoS 34 djuP djuF djuW djuH 3 (memoS 25 draP draF draW draH 2 (memoS 19 dtaP dtaF dtaW dtaH 2 (memoS 48 dtoP dtoF dtoW dtoH 4 (memoS 49 dosP dosF dosW dosH 4 (memoS 50 dalP dalF dalW dalH 1 (memoB [14]))))))))))) where
  regs := by kernel_rfl
  h0 := by kernel_rfl
  start := dlfstart a0 a1 a2 a3 a4 a5 a6 a7 a8 a9 a10 a11 a12 a13 a14 a15
  node := fun a _ => match a with
   | .n0 p0 p1 p2 p3 p4 p5 p6 p7 p8 p9 p10 p11 p12 p13 p14 p15 p16 => dlfnode0 a0 a1 a2 a3 a4 a5 a6 a7 a8 a9 a10 a11 a12 a13 a14 a15 p0 p1 p2 p3 p4 p5 p6 p7 p8 p9 p10 p11 p12 p13 p14 p15 p16
   | .n1 p0 p1 p2 p3 p4 p5 p6 p7 p8 p9 p10 p11 p12 p13 p14 p15 p16 p17 p18 p19 p20 => dlfnode1 a0 a1 a2 a3 a4 a5 a6 a7 a8 a9 a10 a11 a12 a13 a14 a15 p0 p1 p2 p3 p4 p5 p6 p7 p8 p9 p10 p11 p12 p13 p14 p15 p16 p17 p18 p19 p20
   | .n2 p0 p1 p2 p3 p4 p5 p6 p7 p8 p9 p10 p11 p12 p13 p14 p15 p16 p17 p18 p19 p20 p21 p22 => dlfnode2 a0 a1 a2 a3 a4 a5 a6 a7 a8 a9 a10 a11 a12 a13 a14 a15 p0 p1 p2 p3 p4 p5 p6 p7 p8 p9 p10 p11 p12 p13 p14 p15 p16 p17 p18 p19 p20 p21 p22
   | .n3 p0 p1 p2 p3 p4 p5 p6 p7 p8 p9 p10 p11 p12 p13 p14 p15 p16 p17 p18 p19 p20 p21 p22 p23 p24 p25 => dlfnode3 a0 a1 a2 a3 a4 a5 a6 a7 a8 a9 a10 a11 a12 a13 a14 a15 p0 p1 p2 p3 p4 p5 p6 p7 p8 p9 p10 p11 p12 p13 p14 p15 p16 p17 p18 p19 p20 p21 p22 p23 p24 p25
  pd := fun a => match a with
   | .n0 p0 p1 p2 p3 p4 p5 p6 p7 p8 p9 p10 p11 p12 p13 p14 p15 p16 => ⟨(fa_cons rfl (fa_cons rfl (fa_cons rfl (fa_cons rfl (fa_cons rfl (fa_cons rfl (fa_cons rfl fa_nil))))))), (fa_cons ⟨.inl (Nat.le_of_ble_eq_true rfl), rfl, rfl⟩ (fa_cons ⟨.inl (Nat.le_of_ble_eq_true rfl), (fun _ => rfl), rfl⟩ (fa_cons ⟨.inl (Nat.le_of_ble_eq_true rfl), (fun _ => rfl), rfl⟩ (fa_cons ⟨.inl (Nat.le_of_ble_eq_true rfl), rfl, rfl⟩ (fa_cons ⟨.inl (Nat.le_of_ble_eq_true rfl), (fun _ => rfl), rfl⟩ fa_nil))))), fa_nil, rfl⟩
   | .n1 p0 p1 p2 p3 p4 p5 p6 p7 p8 p9 p10 p11 p12 p13 p14 p15 p16 p17 p18 p19 p20 => ⟨(fa_cons rfl (fa_cons rfl (fa_cons rfl (fa_cons rfl (fa_cons rfl (fa_cons rfl (fa_cons rfl (fa_cons rfl (fa_cons rfl fa_nil))))))))), (fa_cons ⟨.inl (Nat.le_of_ble_eq_true rfl), rfl, rfl⟩ (fa_cons ⟨.inl (Nat.le_of_ble_eq_true rfl), (fun _ => rfl), rfl⟩ (fa_cons ⟨.inl (Nat.le_of_ble_eq_true rfl), (fun _ => rfl), rfl⟩ (fa_cons ⟨.inl (Nat.le_of_ble_eq_true rfl), rfl, rfl⟩ (fa_cons ⟨.inl (Nat.le_of_ble_eq_true rfl), (fun _ => rfl), rfl⟩ fa_nil))))), fa_nil, rfl⟩
   | .n2 p0 p1 p2 p3 p4 p5 p6 p7 p8 p9 p10 p11 p12 p13 p14 p15 p16 p17 p18 p19 p20 p21 p22 => ⟨(fa_cons rfl (fa_cons rfl (fa_cons rfl (fa_cons rfl (fa_cons rfl (fa_cons rfl (fa_cons rfl fa_nil))))))), (fa_cons ⟨.inl (Nat.le_of_ble_eq_true rfl), rfl, rfl⟩ (fa_cons ⟨.inl (Nat.le_of_ble_eq_true rfl), (fun _ => rfl), rfl⟩ (fa_cons ⟨.inl (Nat.le_of_ble_eq_true rfl), (fun _ => rfl), rfl⟩ (fa_cons ⟨.inl (Nat.le_of_ble_eq_true rfl), (fun _ => rfl), rfl⟩ (fa_cons ⟨.inl (Nat.le_of_ble_eq_true rfl), (fun _ => rfl), rfl⟩ fa_nil))))), fa_nil, rfl⟩
   | .n3 p0 p1 p2 p3 p4 p5 p6 p7 p8 p9 p10 p11 p12 p13 p14 p15 p16 p17 p18 p19 p20 p21 p22 p23 p24 p25 => ⟨(fa_cons rfl (fa_cons rfl (fa_cons rfl (fa_cons rfl (fa_cons rfl (fa_cons rfl (fa_cons rfl (fa_cons rfl (fa_cons rfl fa_nil))))))))), (fa_cons ⟨.inl (Nat.le_of_ble_eq_true rfl), rfl, rfl⟩ (fa_cons ⟨.inl (Nat.le_of_ble_eq_true rfl), (fun _ => rfl), rfl⟩ (fa_cons ⟨.inl (Nat.le_of_ble_eq_true rfl), (fun _ => rfl), rfl⟩ (fa_cons ⟨.inl (Nat.le_of_ble_eq_true rfl), (fun _ => rfl), rfl⟩ (fa_cons ⟨.inl (Nat.le_of_ble_eq_true rfl), (fun _ => rfl), rfl⟩ fa_nil))))), fa_nil, rfl⟩
  le := fun a => match a with
   | .n0 p0 p1 p2 p3 p4 p5 p6 p7 p8 p9 p10 p11 p12 p13 p14 p15 p16 => Nat.le_of_ble_eq_true rfl
   | .n1 p0 p1 p2 p3 p4 p5 p6 p7 p8 p9 p10 p11 p12 p13 p14 p15 p16 p17 p18 p19 p20 => Nat.le_of_ble_eq_true rfl
   | .n2 p0 p1 p2 p3 p4 p5 p6 p7 p8 p9 p10 p11 p12 p13 p14 p15 p16 p17 p18 p19 p20 p21 p22 => Nat.le_of_ble_eq_true rfl
   | .n3 p0 p1 p2 p3 p4 p5 p6 p7 p8 p9 p10 p11 p12 p13 p14 p15 p16 p17 p18 p19 p20 p21 p22 p23 p24 p25 => Nat.le_of_ble_eq_true rfl
  rd := fun v => ⟨⟨fa_nil, fa_nil, fa_nil, rfl⟩, rfl⟩
  wb := rfl
theorem dlfhR {ρ : Env} (a0 : Bool) (a1 a2 : Int) (a3 : Nat) (a4 a5 : Nat → Int) (a6 : Nat) (a7 a8 a9 a10 : Nat → Int) (a11 : Nat) (a12 : Nat → Int) (a13 : Nat) (a14 a15 : Nat → Int) (hM : MemoOk Try.prog (ctxOf Try.prog (memoS 26 dplP dplF dplW dplH 3 (memoS 30 dmoP dmoF dmoW dmoH 2 (memoS 35 dprP dprF dprW dprH 3 (memoS 34 djuP djuF djuW djuH 3 (memoS 25 draP draF draW draH 2 (memoS 19 dtaP dtaF dtaW dtaH 2 (memoS 48 dtoP dtoF dtoW dtoH 4 (memoS 49 dosP dosF dosW dosH 4 (memoS 50 dalP dalF dalW dalH 1 (memoB [14]))))))))))) ρ) : ∀ X a q n D, FxOk ρ X → X.base = (dlfA a0 a1 a2 a3 a4 a5 a6 a7 a8 a9 a10 a11 a12 a13 a14 a15).base → X.nt = (dlfA a0 a1 a2 a3 a4 a5 a6 a7 a8 a9 a10 a11 a12 a13 a14 a15).nt → X.W = (dlfA a0 a1 a2 a3 a4 a5 a6 a7 a8 a9 a10 a11 a12 a13 a14 a15).W → (dlfA a0 a1 a2 a3 a4 a5 a6 a7 a8 a9 a10 a11 a12 a13 a14 a15).rgo a = some q → q n = some D → (dlfA a0 a1 a2 a3 a4 a5 a6 a7 a8 a9 a10 a11 a12 a13 a14 a15).RangeOk Try.prog ρ X a D := AF.noRange rfl
theorem dlfctr {ρ : Env} (a0 : Bool) (a1 a2 : Int) (a3 : Nat) (a4 a5 : Nat → Int) (a6 : Nat) (a7 a8 a9 a10 : Nat → Int) (a11 : Nat) (a12 : Nat → Int) (a13 : Nat) (a14 a15 : Nat → Int) {n : Nat} {v : dlfR} (hM : MemoOk Try.prog (ctxOf Try.prog (memoS 26 dplP dplF dplW dplH 3 (memoS 30 dmoP dmoF dmoW dmoH 2 (memoS 35 dprP dprF dprW dprH 3 (memoS 34 djuP djuF djuW djuH 3 (memoS 25 draP draF draW draH 2 (memoS 19 dtaP dtaF dtaW dtaH 2 (memoS 48 dtoP dtoF dtoW dtoH 4 (memoS 49 dosP dosF dosW dosH 4 (memoS 50 dalP dalF dalW dalH 1 (memoB [14]))))))))))) ρ) (hv : (dlfA a0 a1 a2 a3 a4 a5 a6 a7 a8 a9 a10 a11 a12 a13 a14 a15).run n = some v) :
    Ctr Try.prog ρ 9 (dlfA a0 a1 a2 a3 a4 a5 a6 a7 a8 a9 a10 a11 a12 a13 a14 a15).args (dlfA a0 a1 a2 a3 a4 a5 a6 a7 a8 a9 a10 a11 a12 a13 a14 a15).H0 (dlfA a0 a1 a2 a3 a4 a5 a6 a7 a8 a9 a10 a11 a12 a13 a14 a15).base (dlfA a0 a1 a2 a3 a4 a5 a6 a7 a8 a9 a10 a11 a12 a13 a14 a15).W ((dlfA a0 a1 a2 a3 a4 a5 a6 a7 a8 a9 a10 a11 a12 a13 a14 a15).rc v) (putH (dlfA a0 a1 a2 a3 a4 a5 a6 a7 a8 a9 a10 a11 a12 a13 a14 a15).H0 ((dlfA a0 a1 a2 a3 a4 a5 a6 a7 a8 a9 a10 a11 a12 a13 a14 a15).rh v ++ (dlfA a0 a1 a2 a3 a4 a5 a6 a7 a8 a9 a10 a11 a12 a13 a14 a15).rx v)) ((dlfA a0 a1 a2 a3 a4 a5 a6 a7 a8 a9 a10 a11 a12 a13 a14 a15).rn v) :=
  AF.ctr try_ok hM (dlfok a0 a1 a2 a3 a4 a5 a6 a7 a8 a9 a10 a11 a12 a13 a14 a15) (fn := Try.f9) Try.func9 rfl rfl (Nat.le_of_ble_eq_true rfl) rfl (dlfhR a0 a1 a2 a3 a4 a5 a6 a7 a8 a9 a10 a11 a12 a13 a14 a15 hM) hv
theorem dlfmem {ρ : Env} : MemoOk Try.prog (ctxOf Try.prog (memoS 26 dplP dplF dplW dplH 3 (memoS 30 dmoP dmoF dmoW dmoH 2 (memoS 35 dprP dprF dprW dprH 3 (memoS 34 djuP djuF djuW djuH 3 (memoS 25 draP draF draW draH 2 (memoS 19 dtaP dtaF dtaW dtaH 2 (memoS 48 dtoP dtoF dtoW dtoH 4 (memoS 49 dosP dosF dosW dosH 4 (memoS 50 dalP dalF dalW dalH 1 (memoB [14]))))))))))) ρ := (memoS_ok (dplknown dplmem) (memoS_ok (dmoknown dmomem) (memoS_ok (dprknown dprmem) (memoS_ok (djuknown djumem) (memoS_ok (draknown dramem) (memoS_ok (dtaknown dtamem) (memoS_ok (dtoknown dtomem) (memoS_ok (dosknown dosmem) (memoS_ok (dalknown dalmem) (memoB_ok (fun f hf => by
    simp only [List.mem_cons, List.not_mem_nil, or_false] at hf
    subst hf
    exact CxKn07_known)))))))))))
instance : Inhabited dlfR := ⟨false⟩
end Go.Proofs.Ythagjhadjpangaa.Cx

/- DieFewer: the law's run. -/
namespace Go.Proofs.Ythagjhadjpangaa.Cx
set_option linter.unusedVariables false
set_option linter.unusedSimpArgs false
set_option maxRecDepth 100000
set_option maxHeartbeats 4000000
open Go Go.RowKit
/-- A job and its plan. -/
structure FewJ (b : Bool) (s1 s2 c1 c2 : Int) (n : Nat) (w1 w2 : Nat → Int) (m : Nat) (pc st zl zh : Nat → Int) (k : Nat) (F G : Nat → Int) : Prop where
  ck : CkS n m (ToolOk n w1 w2 s1 s2 c1 c2) pc st zl zh 0
  job : JobOk s1 s2 c1 c2 n w1 w2 m pc st zl zh
  pos : 0 < PS pc m
  few : PS pc m ≤ 150
  k0 : 0 < k
  chn : Chn (PS pc m) (loJ b s1 c1 w1 w2 m pc st zl) (hiJ b s2 c2 w1 w2 m pc st zh) k (PS pc m) F G
/-- Settings that are tried. -/
structure FewL (T : Int) (c : Nat) (F G : Nat → Int) (nx : Int) : Prop where
  set : SetS c F G T
  nx0 : 0 ≤ nx
  nx1 : nx ≤ 1000
  lt : ∀ i, i < c → F i < nx
theorem FewL.next {T : Int} {c : Nat} {F G : Nat → Int} {nx r g : Int} (h : FewL T c F G nx) (hn : nx < T) (h9 : T ≤ 150) (hr : 0 ≤ r ∧ r < 40) (hg : -10000000000 ≤ g ∧ g ≤ 20000000000) : FewL T (c + 1) (fun i => bif Nat.blt i c then F i else nx) (fun i => bif Nat.blt i c then G i else g) (nx + (1 + r)) := by
  obtain ⟨⟨⟨o1, o2⟩, o3⟩, n0, n1, lt⟩ := h
  refine ⟨⟨⟨fun i hi => ?_, fun i hi => ?_⟩, fun i hi => ?_⟩, by omega, by omega, fun i hi => ?_⟩
  · try dsimp only
    by_cases he : i < c
    · rw [bif_lt he]; exact o1 i he
    · obtain rfl : i = c := by omega
      rw [bif_ge]; exact ⟨n0, hn⟩
  · try dsimp only
    by_cases he : i + 1 < c
    · rw [bif_lt (by omega), bif_lt he]; exact o2 i he
    · obtain rfl : c = i + 1 := by omega
      rw [bif_lt (by omega), bif_ge]; exact lt i (by omega)
  · try dsimp only
    by_cases he : i < c
    · rw [bif_lt he]; exact o3 i (by omega)
    · obtain rfl : i = c := by omega
      rw [bif_ge]; exact hg
  · try dsimp only
    by_cases he : i < c
    · rw [bif_lt he]
      have := lt i he
      omega
    · obtain rfl : i = c := by omega
      rw [bif_ge]; omega
theorem FewL.nil {T : Int} {F G : Nat → Int} : FewL T 0 F G 0 := ⟨⟨⟨fun i hi => by omega, fun i hi => by omega⟩, fun i hi => by omega⟩, Int.le_refl _, by omega, fun i hi => by omega⟩
def FewI (a13 : Nat) : dlfN → Prop
  | .n0 m T k b s1 s2 c1 c2 n pc st zl zh F G w1 w2 => FewJ b s1 s2 c1 c2 n w1 w2 m pc st zl zh k F G ∧ T = PS pc m
  | .n1 m T k less b s1 s2 c1 c2 n m' pc st zl zh k' F G n' w1 w2 => FewJ b s1 s2 c1 c2 n w1 w2 m pc st zl zh k F G ∧ (T = PS pc m ∧ m' = m ∧ k' = k ∧ n' = n) ∧ less = GE (PS pc m) (loJ b s1 c1 w1 w2 m pc st zl) (hiJ b s2 c2 w1 w2 m pc st zh) (k - 1)
  | .n2 m T k c i b s1 s2 c1 c2 n m' pc st zl zh k' F G S n' w1 w2 => FewJ b s1 s2 c1 c2 n w1 w2 m pc st zl zh k F G ∧ (T = PS pc m ∧ m' = m ∧ k' = k ∧ n' = n) ∧ i = c ∧ c ≤ k ∧ ∀ j, j < c → S j = F j
  | .n3 m T k less c nx i b s1 s2 c1 c2 n m' pc st zl zh k' F G Fe Ge n' w1 w2 => FewJ b s1 s2 c1 c2 n w1 w2 m pc st zl zh k F G ∧ (T = PS pc m ∧ m' = m ∧ k' = k ∧ n' = n) ∧ less = GE (PS pc m) (loJ b s1 c1 w1 w2 m pc st zl) (hiJ b s2 c2 w1 w2 m pc st zh) (k - 1) ∧ i = c ∧ c ≤ k - 1 ∧ i ≤ a13 ∧ FewL (PS pc m) c Fe Ge nx
def dlfM : dlfN → Nat
  | .n0 m T k b s1 s2 c1 c2 n pc st zl zh F G w1 w2 => 100000
  | .n1 m T k less b s1 s2 c1 c2 n m' pc st zl zh k' F G n' w1 w2 => 10000
  | .n2 m T k c i b s1 s2 c1 c2 n m' pc st zl zh k' F G S n' w1 w2 => 20000 + (k - c)
  | .n3 m T k less c nx i b s1 s2 c1 c2 n m' pc st zl zh k' F G Fe Ge n' w1 w2 => k - c
section
variable {b : Bool} {s1 s2 c1 c2 : Int} {n : Nat} {w1 w2 : Nat → Int} {m : Nat} {pc st zl zh : Nat → Int} {k : Nat} {F G : Nat → Int}
/-- Proves and Most of the plan. -/
theorem FewJ.ask (h : FewJ b s1 s2 c1 c2 n w1 w2 m pc st zl zh k F G) : k ≤ 150 ∧ (∀ c S, c = k → (∀ j, j < c → S j = F j) → AF.fin (dprA b s1 s2 c1 c2 n w1 w2 m pc st zl zh c S) = true ∧ AF.val (dprA b s1 s2 c1 c2 n (fun i => w1 i) (fun i => w2 i) m (fun i => pc i) (fun i => st i) (fun i => zl i) (fun i => zh i) c (fun i => S i)) = (-1, 0)) ∧
    (AF.fin (dmoA b s1 s2 c1 c2 n w1 w2 m pc st zl zh k) = true ∧ AF.val (dmoA b s1 s2 c1 c2 n (fun i => w1 i) (fun i => w2 i) m (fun i => pc i) (fun i => st i) (fun i => zl i) (fun i => zh i) k) = (PS pc m, 0)) ∧ (AF.fin (dmoA b s1 s2 c1 c2 n w1 w2 m pc st zl zh ((k : Int) - 1)) = true ∧ AF.val (dmoA b s1 s2 c1 c2 n (fun i => w1 i) (fun i => w2 i) m (fun i => pc i) (fun i => st i) (fun i => zl i) (fun i => zh i) ((k : Int) - 1)) = (GE (PS pc m) (loJ b s1 c1 w1 w2 m pc st zl) (hiJ b s2 c2 w1 w2 m pc st zh) (k - 1), 0)) ∧ 0 ≤ GE (PS pc m) (loJ b s1 c1 w1 w2 m pc st zl) (hiJ b s2 c2 w1 w2 m pc st zh) (k - 1) ∧ GE (PS pc m) (loJ b s1 c1 w1 w2 m pc st zl) (hiJ b s2 c2 w1 w2 m pc st zh) (k - 1) < PS pc m := by
  obtain ⟨hC, job, q1, q2, k0, c⟩ := h
  have hn := hC.ok
  have late := job.late (a0 := b)
  have cl := c.len
  have ge := c.ge late (by omega)
  have g1 := ge.2 (k - 1) (by omega)
  rw [show k - 1 + 1 = k by omega, ge.1] at g1
  have gr := GE_rng late (by omega) (k - 1)
  refine ⟨by omega, ?_, ?_, ?_, gr.1, g1.2⟩
  · rintro c' S rfl hS
    obtain ⟨pf, e, hC', pv⟩ := dpr_val (a0 := b) (a1 := s1) (a2 := s2) (a3 := c1) (a4 := c2) (a5 := n) (a6 := w1) (a7 := w2) (a8 := m) (a9 := pc) (a10 := st) (a11 := zl) (a12 := zh) (a13 := c') (a14 := S) (by omega) (by omega) (by omega)
    obtain rfl := hC'.same hC
    replace pv := (pv.resolve_left (fun q => q.1 rfl)).2
    replace pv := (pv.resolve_left (fun q => by omega)).2
    have so : OrdS c' S (PS pc m) := (OrdS.cast hS).2 (chn_set job c).1
    replace pv := (pv.resolve_left (fun q => q.1 so)).2
    obtain ⟨r, hr, pv⟩ := pv
    have p1 := c.proof late (by omega)
    have p2 : ProvS (loJ b s1 c1 w1 w2 m pc st zl) (hiJ b s2 c2 w1 w2 m pc st zh) c' S (-1) := by
      rcases p1 with ⟨_, p1⟩ | ⟨_, hx, _⟩
      · exact .inl ⟨rfl, fun i hi => by rw [hS i (by omega), hS (i + 1) hi]; exact p1 i hi⟩
      · omega
    rw [hr.same p2] at pv
    exact ⟨pf, pv⟩
  · obtain ⟨mf, e, hC', mv⟩ := dmo_val (a0 := b) (a1 := s1) (a2 := s2) (a3 := c1) (a4 := c2) (a5 := n) (a6 := w1) (a7 := w2) (a8 := m) (a9 := pc) (a10 := st) (a11 := zl) (a12 := zh) (a13 := k) (by omega) (by omega)
    obtain rfl := hC'.same hC
    replace mv := (mv.resolve_left (fun q => q.1 rfl)).2
    replace mv := (mv.resolve_left (fun q => q.1 (by omega))).2
    rw [show ((k : Int)).toNat = k by omega, ge.1] at mv
    exact ⟨mf, mv⟩
  · obtain ⟨mf, e, hC', mv⟩ := dmo_val (a0 := b) (a1 := s1) (a2 := s2) (a3 := c1) (a4 := c2) (a5 := n) (a6 := w1) (a7 := w2) (a8 := m) (a9 := pc) (a10 := st) (a11 := zl) (a12 := zh) (a13 := (k : Int) - 1) (by omega) (by omega)
    obtain rfl := hC'.same hC
    replace mv := (mv.resolve_left (fun q => q.1 rfl)).2
    replace mv := (mv.resolve_left (fun q => q.1 (by omega))).2
    rw [show ((k : Int) - 1).toNat = k - 1 by omega] at mv
    exact ⟨mf, mv⟩
/-- Judge of other settings. -/
theorem FewJ.judge (h : FewJ b s1 s2 c1 c2 n w1 w2 m pc st zl zh k F G) {c : Nat} {Fe Ge : Nat → Int} {nx : Int} (hc : c ≤ k - 1) (hl : FewL (PS pc m) c Fe Ge nx) : AF.fin (djuA b s1 s2 c1 c2 n w1 w2 m pc st zl zh c Fe Ge) = true ∧ ∃ r, AF.val (djuA b s1 s2 c1 c2 n (fun i => w1 i) (fun i => w2 i) m (fun i => pc i) (fun i => st i) (fun i => zl i) (fun i => zh i) c (fun i => Fe i) (fun i => Ge i)) = (r, 0) ∧ r < PS pc m ∧ r ≤ GE (PS pc m) (loJ b s1 c1 w1 w2 m pc st zl) (hiJ b s2 c2 w1 w2 m pc st zh) (k - 1) := by
  obtain ⟨k9, _, _, _, g0, g1⟩ := h.ask
  obtain ⟨hC, job, q1, q2, k0, ch⟩ := h
  have hn := hC.ok
  have late := job.late (a0 := b)
  obtain ⟨jf, e, hC', jv⟩ := dju_val (a0 := b) (a1 := s1) (a2 := s2) (a3 := c1) (a4 := c2) (a5 := n) (a6 := w1) (a7 := w2) (a8 := m) (a9 := pc) (a10 := st) (a11 := zl) (a12 := zh) (a13 := c) (a14 := Fe) (a15 := Ge) (by omega) (by omega) (by omega)
  obtain rfl := hC'.same hC
  replace jv := (jv.resolve_left (fun q => q.1 rfl)).2
  replace jv := (jv.resolve_left (fun q => by omega)).2
  replace jv := (jv.resolve_left (fun q => q.1 hl.set)).2
  obtain ⟨r, hr, jv⟩ := jv
  have le := judge_le late (by omega) hl.set.1 hr.1 hr.2.1 hr.2.2.1 fun i hi x x0 x1 hs => can_of job (hl.set.1.1 i hi).1 x0 x1 (hl.set.2 i (by omega)) hs
  have mo := GE_mono late (i := c) (k - 1) hc
  exact ⟨jf, r, jv, by omega, by omega⟩
/-- Reach and Targets of a piece. -/
theorem FewJ.reach (h : FewJ b s1 s2 c1 c2 n w1 w2 m pc st zl zh k F G) {p : Int} (h0 : 0 ≤ p) (h1 : p < PS pc m) : AF.fin (draA b s1 s2 c1 c2 n w1 w2 m pc st zl zh p) = true ∧ ∃ t, AF.val (draA b s1 s2 c1 c2 n (fun i => w1 i) (fun i => w2 i) m (fun i => pc i) (fun i => st i) (fun i => zl i) (fun i => zh i) p) = (t, 0) ∧ p ≤ t ∧ t ≤ PS pc m ∧ (p < t → AF.fin (dtaA b s1 s2 c1 c2 n w1 w2 m pc st zl zh p t) = true ∧ ∃ L H, AF.val (dtaA b s1 s2 c1 c2 n (fun i => w1 i) (fun i => w2 i) m (fun i => pc i) (fun i => st i) (fun i => zl i) (fun i => zh i) p t) = (L, H, 0) ∧ L ≤ H ∧ -2000000 ≤ L ∧ H ≤ 10002000000) := by
  obtain ⟨hC, job, q1, q2, k0, ch⟩ := h
  have hn := hC.ok
  obtain ⟨rf, e, hC', rv⟩ := dra_val (a0 := b) (a1 := s1) (a2 := s2) (a3 := c1) (a4 := c2) (a5 := n) (a6 := w1) (a7 := w2) (a8 := m) (a9 := pc) (a10 := st) (a11 := zl) (a12 := zh) (a13 := p) (by omega) (by omega)
  obtain rfl := hC'.same hC
  replace rv := (rv.resolve_left (fun q => q.1 rfl)).2
  replace rv := (rv.resolve_left (fun q => q.1 ⟨h0, h1⟩)).2
  obtain ⟨J, hJ, rv⟩ := rv
  have j1 := hJ.1
  refine ⟨rf, _, rv, by omega, by omega, fun hp => ?_⟩
  obtain ⟨tf, e, hC', tv⟩ := dta_val (a0 := b) (a1 := s1) (a2 := s2) (a3 := c1) (a4 := c2) (a5 := n) (a6 := w1) (a7 := w2) (a8 := m) (a9 := pc) (a10 := st) (a11 := zl) (a12 := zh) (a13 := p) (a14 := p + J) (by omega) (by omega)
  obtain rfl := hC'.same hC
  replace tv := (tv.resolve_left (fun q => q.1 rfl)).2
  replace tv := (tv.resolve_left (fun q => q.1 ⟨h0, hp, by omega⟩)).2
  have el := job.lo (a0 := b) (a13 := p) h0 (by omega) (J - 1)
  have eh := job.hi (a0 := b) (a13 := p) h0 (by omega) (J - 1)
  rw [show J - 1 + 1 = J by omega] at el eh
  rw [show (p + (J : Int) - p).toNat = J by omega, el, eh] at tv
  have hl : (loJ b s1 c1 w1 w2 m pc st zl) p J ≤ (hiJ b s2 c2 w1 w2 m pc st zh) p J := hJ.2.2 (by omega)
  have d := job.lobd (b := b) (f := p) (k := J) h0 (by omega) (by omega)
  rcases tv with ⟨hx, _⟩ | ⟨_, tv⟩
  · exact absurd hl (Int.not_le.2 hx)
  · exact ⟨tf, _, _, tv, hl, d.1.1, d.2.2⟩
end
theorem dlf_sat (a0 : Bool) (a1 a2 : Int) (a3 : Nat) (a4 a5 : Nat → Int) (a6 : Nat) (a7 a8 a9 a10 : Nat → Int) (a11 : Nat) (a12 : Nat → Int) (a13 : Nat) (a14 a15 : Nat → Int) (h1 : 0 ≤ a1 ∧ a1 ≤ 255) (h2 : 0 ≤ a2 ∧ a2 ≤ 255) (h4 : ∀ i, 0 ≤ a4 i ∧ a4 i ≤ 255) (h5 : ∀ i, 0 ≤ a5 i ∧ a5 i ≤ 255) (h7 : ∀ i, 0 ≤ a7 i ∧ a7 i ≤ 255) (h8 : ∀ i, 0 ≤ a8 i ∧ a8 i ≤ 255) (h9 : ∀ i, 0 ≤ a9 i ∧ a9 i ≤ 255) (h10 : ∀ i, 0 ≤ a10 i ∧ a10 i ≤ 255) : DD.sat (FewI a13) (fun v => v = true) (dlfD0 a0 a1 a2 a3 a4 a5 a6 a7 a8 a9 a10 a11 a12 a13 a14 a15) := by
  obtain ⟨of, b, s1, s2, c1, c2, n, w1, w2, tv, tok, ook⟩ := dos_val (a0 := a0) (a3 := a3) (a6 := a6) (a11 := a11) (a12 := a12) h1 h2 h4 h5 h7 h8 h9 h10
  have tf := (dto_val (a0 := a0) (a3 := a3) (a6 := a6) (a7 := a7) (a8 := a8) (a9 := a9) (a10 := a10) (a11 := a11) (a12 := a12) h1 h2 h4 h5).1
  cases hO : AF.val (dosA a0 a1 a2 a3 a4 a5 a6 a7 a8 a9 a10 a11 a12) with
  | r0 => rw [hO] at ook; exact ook.elim
  | r1 m pc st zl zh =>
    rw [hO] at ook
    obtain ⟨hC, job, q1, q2⟩ := made_ok tok ook
    have tn := tok.2.2.2.2.1
    have om := ook.1
    have tvE : AF.val (dtoA a0 a1 a2 a3 (fun i => a4 i) (fun i => a5 i) a6 (fun i => a7 i) (fun i => a8 i) (fun i => a9 i) (fun i => a10 i) a11 (fun i => a12 i)) = _ := tv
    have ovE : AF.val (dosA a0 a1 a2 a3 (fun i => a4 i) (fun i => a5 i) a6 (fun i => a7 i) (fun i => a8 i) (fun i => a9 i) (fun i => a10 i) a11 (fun i => a12 i)) = _ := hO
    obtain ⟨af, av⟩ := dal_val (a0 := m) (a1 := pc) (a2 := st) (a3 := zl) (a4 := zh) job.few job.pc
    have avE : AF.val (dalA m (fun i => pc i) (fun i => st i) (fun i => zl i) (fun i => zh i)) = _ := av
    obtain ⟨pf, e, hC', pv⟩ := dpl_val (a0 := b) (a1 := s1) (a2 := s2) (a3 := c1) (a4 := c2) (a5 := n) (a6 := w1) (a7 := w2) (a8 := m) (a9 := pc) (a10 := st) (a11 := zl) (a12 := zh) (by omega) (by omega) (fun _ => by omega)
    obtain rfl := hC'.same hC
    replace pv := (pv.resolve_left (fun q => q.1 rfl)).2
    unfold dlfD0
    rcases pv with ⟨stk, pv⟩ | ⟨k, F, G, c, pv⟩
    · have pvE : AF.val (dplA b s1 s2 c1 c2 n (fun i => w1 i) (fun i => w2 i) m (fun i => pc i) (fun i => st i) (fun i => zl i) (fun i => zh i)) = _ := pv
      obtain ⟨mf, e, hC', mv⟩ := dmo_val (a0 := b) (a1 := s1) (a2 := s2) (a3 := c1) (a4 := c2) (a5 := n) (a6 := w1) (a7 := w2) (a8 := m) (a9 := pc) (a10 := st) (a11 := zl) (a12 := zh) (a13 := 1000) (by omega) (by omega)
      obtain rfl := hC'.same hC
      replace mv := (mv.resolve_left (fun q => q.1 rfl)).2
      replace mv := (mv.resolve_left (fun q => q.1 (by omega))).2
      have mvE : AF.val (dmoA b s1 s2 c1 c2 n (fun i => w1 i) (fun i => w2 i) m (fun i => pc i) (fun i => st i) (fun i => zl i) (fun i => zh i) 1000) = _ := mv
      have lt := stk.less (job.late (a0 := b)) (by omega) (1000 : Int).toNat
      generalize GE (PS pc m) (loJ b s1 c1 w1 w2 m pc st zl) (hiJ b s2 c2 w1 w2 m pc st zh) (1000 : Int).toNat = g at lt mvE
      simp only [DD.sat, Nat.zero_add, cmLss, cmLssF, cmLeq, cmLeqF, cmGtr, cmGtrF, cmGeq, cmGeqF, cmEql, cmEqlF, cmNeq, cmNeqF, decide_eq_true_eq, Bool.not_eq_true', Bool.not_eq_false', tvE, ovE, avE, pvE, mvE, dtow0, dtow1, dtow2, dtow3, dtow4, dtow5, dtow6, dtow7, dosw0, dosw1, dosw2, dosw3, dosw4, dplw0, dplw1, dplw2, dplw3]
      repeat' (first
      | exact Nat.le_refl _
      | exact shape_ok fun i _ => rfl
      | assumption
      | trivial
      | (intro hx; first | (exfalso; omega) | skip)
      | apply And.intro
      | omega)
    · have pvE : AF.val (dplA b s1 s2 c1 c2 n (fun i => w1 i) (fun i => w2 i) m (fun i => pc i) (fun i => st i) (fun i => zl i) (fun i => zh i)) = _ := pv
      have hk : 0 < k := by
        obtain ⟨E, e0, ek, _⟩ := c
        by_cases hk : k = 0
        · subst hk; omega
        · omega
      have hI : FewI a13 (.n0 m (PS pc m) k b s1 s2 c1 c2 n pc st zl zh F G w1 w2) := ⟨⟨hC, job, q1, q2, hk, c⟩, rfl⟩
      simp only [DD.sat, Nat.zero_add, cmLss, cmLssF, cmLeq, cmLeqF, cmGtr, cmGtrF, cmGeq, cmGeqF, cmEql, cmEqlF, cmNeq, cmNeqF, decide_eq_true_eq, Bool.not_eq_true', Bool.not_eq_false', tvE, ovE, avE, pvE, dtow0, dtow1, dtow2, dtow3, dtow4, dtow5, dtow6, dtow7, dosw0, dosw1, dosw2, dosw3, dosw4, dplw0, dplw1, dplw2, dplw3]
      repeat' (first
      | exact Nat.le_refl _
      | exact shape_ok fun i _ => rfl
      | assumption
      | trivial
      | (intro hx; first | (exfalso; omega) | skip)
      | apply And.intro
      | omega)
theorem dlf_n0 (a0 : Bool) (a1 a2 : Int) (a3 : Nat) (a4 a5 : Nat → Int) (a6 : Nat) (a7 a8 a9 a10 : Nat → Int) (a11 : Nat) (a12 : Nat → Int) (a13 : Nat) (a14 a15 : Nat → Int) {b : Bool} {s1 s2 c1 c2 : Int} {n : Nat} {w1 w2 : Nat → Int} {m : Nat} {pc st zl zh : Nat → Int} {k : Nat} {F G : Nat → Int} (h : FewJ b s1 s2 c1 c2 n w1 w2 m pc st zl zh k F G) : DD.sat (fun b' => FewI a13 b' ∧ dlfM b' < dlfM (.n0 m (PS pc m) k b s1 s2 c1 c2 n pc st zl zh F G w1 w2)) (fun v => v = true) (dlfD a0 a1 a2 a3 a4 a5 a6 a7 a8 a9 a10 a11 a12 a13 a14 a15 (.n0 m (PS pc m) k b s1 s2 c1 c2 n pc st zl zh F G w1 w2)) := by
  have k0 := h.k0
  have k9 := h.ask.1
  have hI : FewI a13 (.n2 m (PS pc m) k 1 1 b s1 s2 c1 c2 n m pc st zl zh k F G (fun i => F 0) n w1 w2) := ⟨h, ⟨rfl, rfl, rfl, rfl⟩, rfl, k0, fun j hj => by
    obtain rfl : j = 0 := by omega
    rfl⟩
  have hI2 : dlfM (.n2 m (PS pc m) k 1 1 b s1 s2 c1 c2 n m pc st zl zh k F G (fun i => F 0) n w1 w2) < dlfM (.n0 m (PS pc m) k b s1 s2 c1 c2 n pc st zl zh F G w1 w2) := show 20000 + (k - 1) < 100000 by omega
  unfold dlfD
  simp only [DD.sat, Nat.zero_add, cmLss, cmLssF, cmLeq, cmLeqF, cmGtr, cmGtrF, cmGeq, cmGeqF, cmEql, cmEqlF, cmNeq, cmNeqF, decide_eq_true_eq, Bool.not_eq_true', Bool.not_eq_false', Int.toNat_zero]
  repeat' (first
      | exact Nat.le_refl _
      | exact shape_ok fun i _ => rfl
      | assumption
      | trivial
      | (intro hx; first | (exfalso; omega) | skip)
      | apply And.intro
      | omega)
theorem dlf_n2 (a0 : Bool) (a1 a2 : Int) (a3 : Nat) (a4 a5 : Nat → Int) (a6 : Nat) (a7 a8 a9 a10 : Nat → Int) (a11 : Nat) (a12 : Nat → Int) (a13 : Nat) (a14 a15 : Nat → Int) {b : Bool} {s1 s2 c1 c2 : Int} {n : Nat} {w1 w2 : Nat → Int} {m : Nat} {pc st zl zh : Nat → Int} {k : Nat} {F G S : Nat → Int} {c : Nat} (h : FewJ b s1 s2 c1 c2 n w1 w2 m pc st zl zh k F G) (hc : c ≤ k) (hS : ∀ j, j < c → S j = F j) : DD.sat (fun b' => FewI a13 b' ∧ dlfM b' < dlfM (.n2 m (PS pc m) k c c b s1 s2 c1 c2 n m pc st zl zh k F G S n w1 w2)) (fun v => v = true) (dlfD a0 a1 a2 a3 a4 a5 a6 a7 a8 a9 a10 a11 a12 a13 a14 a15 (.n2 m (PS pc m) k c c b s1 s2 c1 c2 n m pc st zl zh k F G S n w1 w2)) := by
  obtain ⟨k9, pr, ⟨f1, v1⟩, ⟨f2, v2⟩, g0, g1⟩ := h.ask
  have k0 := h.k0
  have hn := h.ck.ok
  have e1 : Ar.run .add .i64 (c : Int) 1 = (c : Int) + 1 := arAdd (by omega)
  unfold dlfD
  by_cases hq : c < k
  · have hI : FewI a13 (.n2 m (PS pc m) k (c + 1) ((c : Int) + 1) b s1 s2 c1 c2 n m pc st zl zh k F G (fun i => bif Nat.blt i c then S i else F c) n w1 w2) := ⟨h, ⟨rfl, rfl, rfl, rfl⟩, by omega, hq, fun j hj => by
      try dsimp only
      by_cases he : j < c
      · rw [bif_lt he]; exact hS j he
      · obtain rfl : j = c := by omega
        rw [bif_ge]⟩
    have hM : dlfM (.n2 m (PS pc m) k (c + 1) ((c : Int) + 1) b s1 s2 c1 c2 n m pc st zl zh k F G (fun i => bif Nat.blt i c then S i else F c) n w1 w2) < dlfM (.n2 m (PS pc m) k c c b s1 s2 c1 c2 n m pc st zl zh k F G S n w1 w2) := show 20000 + (k - (c + 1)) < 20000 + (k - c) by omega
    simp only [DD.sat, Nat.zero_add, cmLss, cmLssF, cmLeq, cmLeqF, cmGtr, cmGtrF, cmGeq, cmGeqF, cmEql, cmEqlF, cmNeq, cmNeqF, decide_eq_true_eq, Bool.not_eq_true', Bool.not_eq_false', e1, Int.toNat_natCast]
    exact ⟨fun _ => ⟨by omega, by omega, hq, Nat.le_refl _, by omega, hI, hM⟩, fun hx => by omega⟩
  · obtain rfl : c = k := by omega
    obtain ⟨f3, v3⟩ := pr c S rfl hS
    have e2 : Ar.run .sub .i64 (c : Int) 1 = (c : Int) - 1 := arSub (by omega)
    have hI : FewI a13 (.n1 m (PS pc m) c (GE (PS pc m) (loJ b s1 c1 w1 w2 m pc st zl) (hiJ b s2 c2 w1 w2 m pc st zh) (c - 1)) b s1 s2 c1 c2 n m pc st zl zh c F G n w1 w2) := ⟨h, ⟨rfl, rfl, rfl, rfl⟩, rfl⟩
    have hM : dlfM (.n1 m (PS pc m) c (GE (PS pc m) (loJ b s1 c1 w1 w2 m pc st zl) (hiJ b s2 c2 w1 w2 m pc st zh) (c - 1)) b s1 s2 c1 c2 n m pc st zl zh c F G n w1 w2) < dlfM (.n2 m (PS pc m) c c c b s1 s2 c1 c2 n m pc st zl zh c F G S n w1 w2) := show 10000 < 20000 + (c - c) by omega
    simp only [DD.sat, Nat.zero_add, cmLss, cmLssF, cmLeq, cmLeqF, cmGtr, cmGtrF, cmGeq, cmGeqF, cmEql, cmEqlF, cmNeq, cmNeqF, decide_eq_true_eq, Bool.not_eq_true', Bool.not_eq_false', e2, v1, v2, v3]
    generalize GE (PS pc m) (loJ b s1 c1 w1 w2 m pc st zl) (hiJ b s2 c2 w1 w2 m pc st zh) (c - 1) = less at *
    repeat' (first
      | exact Nat.le_refl _
      | exact shape_ok fun i _ => rfl
      | assumption
      | trivial
      | (intro hx; first | (exfalso; omega) | skip)
      | apply And.intro
      | omega)
theorem few_more {b : Bool} {s1 s2 c1 c2 : Int} {n : Nat} {w1 w2 : Nat → Int} {m : Nat} {pc st zl zh : Nat → Int} {k : Nat} {F G : Nat → Int} (a13 : Nat) (h : FewJ b s1 s2 c1 c2 n w1 w2 m pc st zl zh k F G) {c : Nat} {Fe Ge : Nat → Int} {nx r g : Int} (hc : c < k - 1) (hi : c < a13) (hl : FewL (PS pc m) c Fe Ge nx) (hn : nx < PS pc m) (hr : 0 ≤ r ∧ r < 40) (hg : -10000000000 ≤ g ∧ g ≤ 20000000000) : FewI a13 (.n3 m (PS pc m) k (GE (PS pc m) (loJ b s1 c1 w1 w2 m pc st zl) (hiJ b s2 c2 w1 w2 m pc st zh) (k - 1)) (c + 1) (nx + (1 + r)) ((c : Int) + 1) b s1 s2 c1 c2 n m pc st zl zh k F G (fun i => bif Nat.blt i c then Fe i else nx) (fun i => bif Nat.blt i c then Ge i else g) n w1 w2) :=
  ⟨h, ⟨rfl, rfl, rfl, rfl⟩, rfl, by omega, by omega, by omega, hl.next hn h.few hr hg⟩
theorem few_one {b : Bool} {s1 s2 c1 c2 : Int} {n : Nat} {w1 w2 : Nat → Int} {m : Nat} {pc st zl zh : Nat → Int} {k : Nat} {F G : Nat → Int} (a13 : Nat) (h : FewJ b s1 s2 c1 c2 n w1 w2 m pc st zl zh k F G) {r g : Int} (hc : 0 < k - 1) (hi : 0 < a13) (hr : 0 ≤ r ∧ r < 40) (hg : -10000000000 ≤ g ∧ g ≤ 20000000000) : FewI a13 (.n3 m (PS pc m) k (GE (PS pc m) (loJ b s1 c1 w1 w2 m pc st zl) (hiJ b s2 c2 w1 w2 m pc st zh) (k - 1)) 1 (0 + (1 + r)) 1 b s1 s2 c1 c2 n m pc st zl zh k F G (fun i => 0) (fun i => g) n w1 w2) := by
  have q := (FewL.nil (T := PS pc m) (F := fun _ => 0) (G := fun _ => g)).next h.pos h.few hr hg
  refine ⟨h, ⟨rfl, rfl, rfl, rfl⟩, rfl, rfl, by omega, by omega, ?_⟩
  exact q
theorem dlf_n3 (a0 : Bool) (a1 a2 : Int) (a3 : Nat) (a4 a5 : Nat → Int) (a6 : Nat) (a7 a8 a9 a10 : Nat → Int) (a11 : Nat) (a12 : Nat → Int) (a13 : Nat) (a14 a15 : Nat → Int) (h14 : ∀ i, 0 ≤ a14 i ∧ a14 i ≤ 255) (h15 : ∀ i, 0 ≤ a15 i ∧ a15 i ≤ 255) {b : Bool} {s1 s2 c1 c2 : Int} {n : Nat} {w1 w2 : Nat → Int} {m : Nat} {pc st zl zh : Nat → Int} {k : Nat} {F G Fe Ge : Nat → Int} {c : Nat} {nx : Int} (h : FewJ b s1 s2 c1 c2 n w1 w2 m pc st zl zh k F G) (hc : c ≤ k - 1) (hi : c ≤ a13) (hl : FewL (PS pc m) c Fe Ge nx) : DD.sat (fun b' => FewI a13 b' ∧ dlfM b' < dlfM (.n3 m (PS pc m) k (GE (PS pc m) (loJ b s1 c1 w1 w2 m pc st zl) (hiJ b s2 c2 w1 w2 m pc st zh) (k - 1)) c nx c b s1 s2 c1 c2 n m pc st zl zh k F G Fe Ge n w1 w2)) (fun v => v = true) (dlfD a0 a1 a2 a3 a4 a5 a6 a7 a8 a9 a10 a11 a12 a13 a14 a15 (.n3 m (PS pc m) k (GE (PS pc m) (loJ b s1 c1 w1 w2 m pc st zl) (hiJ b s2 c2 w1 w2 m pc st zh) (k - 1)) c nx c b s1 s2 c1 c2 n m pc st zl zh k F G Fe Ge n w1 w2)) := by
  obtain ⟨k9, _, _, _, g0, g1⟩ := h.ask
  have k0 := h.k0
  have few := h.few
  have hn := h.ck.ok
  have e2 : Ar.run .sub .i64 (k : Int) 1 = (k : Int) - 1 := arSub (by omega)
  have n0 := hl.nx0
  have n1 := hl.nx1
  by_cases hend : c < a13 ∧ c < k - 1 ∧ nx < PS pc m
  · obtain ⟨z1, z2, z3⟩ := hend
    have mk := fun {r g : Int} => few_more (r := r) (g := g) a13 h z2 z1 hl z3
    have e1 : Ar.run .add .i64 (c : Int) 1 = (c : Int) + 1 := arAdd (by omega)
    have b1 := conv_byte (h14 c)
    have b2 := conv_byte (h15 c)
    have r1 := rem_pos (h14 c).1 (show (0 : Int) < 40 by omega)
    have r2 := rem_pos (h15 c).1 (show (0 : Int) < k by omega)
    have r3 := rem_pos (h15 c).1 (show (0 : Int) < 3 by omega)
    obtain ⟨r, hr⟩ : ∃ r, Ar.run .rem .i64 (a14 c) 40 = r := ⟨_, rfl⟩
    obtain ⟨x, hx⟩ : ∃ x, Ar.run .rem .i64 (a15 c) k = x := ⟨_, rfl⟩
    obtain ⟨y, hy⟩ : ∃ y, Ar.run .rem .i64 (a15 c) 3 = y := ⟨_, rfl⟩
    rw [hr] at r1; rw [hx] at r2; rw [hy] at r3
    have gx := (chn_set h.job h.chn).2 x.toNat (by omega)
    have tb : -10000000000 ≤ G x.toNat + y ∧ G x.toNat + y ≤ 20000000000 := by
      obtain ⟨E, e0, ek, st', nn⟩ := h.chn.at'
      obtain ⟨a1', a2', a3', a4', a5'⟩ := st' x.toNat (by omega)
      have nz := nn x.toNat (by omega)
      have d := h.job.lobd (b := b) (f := E x.toNat) (k := (E (x.toNat + 1) - E x.toNat).toNat) nz (by omega) (by omega)
      unfold CanP at a4'
      omega
    have e3 : Ar.run .add .i64 (G x.toNat) y = G x.toNat + y := arAdd (by omega)
    have e4 : Ar.run .add .i64 1 r = 1 + r := arAdd (by omega)
    have e5 : Ar.run .add .i64 nx (1 + r) = nx + (1 + r) := arAdd (by omega)
    have hA := mk ⟨r1.1, r1.2.1⟩ tb
    have ex : ∀ {nx' : Int} {Fe' Ge' : Nat → Int}, dlfM (.n3 m (PS pc m) k (GE (PS pc m) (loJ b s1 c1 w1 w2 m pc st zl) (hiJ b s2 c2 w1 w2 m pc st zh) (k - 1)) (c + 1) nx' ((c : Int) + 1) b s1 s2 c1 c2 n m pc st zl zh k F G Fe' Ge' n w1 w2) < dlfM (.n3 m (PS pc m) k (GE (PS pc m) (loJ b s1 c1 w1 w2 m pc st zl) (hiJ b s2 c2 w1 w2 m pc st zh) (k - 1)) c nx c b s1 s2 c1 c2 n m pc st zl zh k F G Fe Ge n w1 w2) := fun {_ _ _} => show k - (c + 1) < k - c by omega
    obtain ⟨rf, t, rv, t1, t2, t3⟩ := h.reach n0 z3
    unfold dlfD
    by_cases ht : nx < t
    · obtain ⟨tf, L, H, tv, l1, l2, l3⟩ := t3 ht
      have e6 : Ar.run .sub .i64 H L = H - L := arSub (by omega)
      have e7 : Ar.run .add .i64 (H - L) 1 = H - L + 1 := arAdd (by omega)
      have r4 := rem_pos (h15 c).1 (show (0 : Int) < H - L + 1 by omega)
      obtain ⟨u, hu⟩ : ∃ u, Ar.run .rem .i64 (a15 c) (H - L + 1) = u := ⟨_, rfl⟩
      rw [hu] at r4
      have e8 : Ar.run .add .i64 L u = L + u := arAdd (by omega)
      have hB := mk ⟨r1.1, r1.2.1⟩ (g := L + u) (by omega)
      simp only [DD.sat, Nat.zero_add, cmLss, cmLssF, cmLeq, cmLeqF, cmGtr, cmGtrF, cmGeq, cmGeqF, cmEql, cmEqlF, cmNeq, cmNeqF, decide_eq_true_eq, Bool.not_eq_true', Bool.not_eq_false', Int.toNat_natCast, e1, e2, b1, b2, hr, hx, hy, e3, e4, e5, e6, e7, hu, e8, rv, tv]
      repeat' (first
        | exact Nat.le_refl _
        | exact shape_ok fun i _ => rfl
        | exact hA
        | exact hB
        | exact ex
        | assumption
        | trivial
        | (intro hx; first | (exfalso; omega) | skip)
        | apply And.intro
        | omega)
    · simp only [DD.sat, Nat.zero_add, cmLss, cmLssF, cmLeq, cmLeqF, cmGtr, cmGtrF, cmGeq, cmGeqF, cmEql, cmEqlF, cmNeq, cmNeqF, decide_eq_true_eq, Bool.not_eq_true', Bool.not_eq_false', Int.toNat_natCast, e1, e2, b1, b2, hr, hx, hy, e3, e4, e5, rv]
      repeat' (first
        | exact Nat.le_refl _
        | exact shape_ok fun i _ => rfl
        | exact hA
        | exact ex
        | assumption
        | trivial
        | (intro hx; first | (exfalso; omega) | skip)
        | apply And.intro
        | omega)
  · obtain ⟨jf, r, jv, j1, j2⟩ := h.judge hc hl
    generalize GE (PS pc m) (loJ b s1 c1 w1 w2 m pc st zl) (hiJ b s2 c2 w1 w2 m pc st zh) (k - 1) = less at *
    unfold dlfD
    simp only [DD.sat, Nat.zero_add, cmLss, cmLssF, cmLeq, cmLeqF, cmGtr, cmGtrF, cmGeq, cmGeqF, cmEql, cmEqlF, cmNeq, cmNeqF, decide_eq_true_eq, Bool.not_eq_true', Bool.not_eq_false', e2, jv]
    have hend' : (a13 : Int) ≤ c ∨ (k : Int) - 1 ≤ c ∨ PS pc m ≤ nx := by omega
    repeat' (first
      | exact Nat.le_refl _
      | exact shape_ok fun i _ => rfl
      | assumption
      | trivial
      | (intro hx; first | (exfalso; omega) | skip)
      | apply And.intro
      | omega)
theorem dlf_n1 (a0 : Bool) (a1 a2 : Int) (a3 : Nat) (a4 a5 : Nat → Int) (a6 : Nat) (a7 a8 a9 a10 : Nat → Int) (a11 : Nat) (a12 : Nat → Int) (a13 : Nat) (a14 a15 : Nat → Int) (h14 : ∀ i, 0 ≤ a14 i ∧ a14 i ≤ 255) (h15 : ∀ i, 0 ≤ a15 i ∧ a15 i ≤ 255) {b : Bool} {s1 s2 c1 c2 : Int} {n : Nat} {w1 w2 : Nat → Int} {m : Nat} {pc st zl zh : Nat → Int} {k : Nat} {F G : Nat → Int} (h : FewJ b s1 s2 c1 c2 n w1 w2 m pc st zl zh k F G) : DD.sat (fun b' => FewI a13 b' ∧ dlfM b' < dlfM (.n1 m (PS pc m) k (GE (PS pc m) (loJ b s1 c1 w1 w2 m pc st zl) (hiJ b s2 c2 w1 w2 m pc st zh) (k - 1)) b s1 s2 c1 c2 n m pc st zl zh k F G n w1 w2)) (fun v => v = true) (dlfD a0 a1 a2 a3 a4 a5 a6 a7 a8 a9 a10 a11 a12 a13 a14 a15 (.n1 m (PS pc m) k (GE (PS pc m) (loJ b s1 c1 w1 w2 m pc st zl) (hiJ b s2 c2 w1 w2 m pc st zh) (k - 1)) b s1 s2 c1 c2 n m pc st zl zh k F G n w1 w2)) := by
  obtain ⟨k9, _, _, _, g0, g1⟩ := h.ask
  have k0 := h.k0
  have few := h.few
  have pos := h.pos
  have hn := h.ck.ok
  have e2 : Ar.run .sub .i64 (k : Int) 1 = (k : Int) - 1 := arSub (by omega)
  by_cases hend : 0 < a13 ∧ 0 < k - 1
  · obtain ⟨z1, z2⟩ := hend
    have mk := fun {r g : Int} => few_one (r := r) (g := g) a13 h z2 z1
    have b1 := conv_byte (h14 0)
    have b2 := conv_byte (h15 0)
    have r1 := rem_pos (h14 0).1 (show (0 : Int) < 40 by omega)
    have r2 := rem_pos (h15 0).1 (show (0 : Int) < k by omega)
    have r3 := rem_pos (h15 0).1 (show (0 : Int) < 3 by omega)
    obtain ⟨r, hr⟩ : ∃ r, Ar.run .rem .i64 (a14 0) 40 = r := ⟨_, rfl⟩
    obtain ⟨x, hx⟩ : ∃ x, Ar.run .rem .i64 (a15 0) k = x := ⟨_, rfl⟩
    obtain ⟨y, hy⟩ : ∃ y, Ar.run .rem .i64 (a15 0) 3 = y := ⟨_, rfl⟩
    rw [hr] at r1; rw [hx] at r2; rw [hy] at r3
    have tb : -10000000000 ≤ G x.toNat + y ∧ G x.toNat + y ≤ 20000000000 := by
      obtain ⟨E, e0, ek, st', nn⟩ := h.chn.at'
      obtain ⟨a1', a2', a3', a4', a5'⟩ := st' x.toNat (by omega)
      have nz := nn x.toNat (by omega)
      have d := h.job.lobd (b := b) (f := E x.toNat) (k := (E (x.toNat + 1) - E x.toNat).toNat) nz (by omega) (by omega)
      unfold CanP at a4'
      omega
    have e3 : Ar.run .add .i64 (G x.toNat) y = G x.toNat + y := arAdd (by omega)
    have e4 : Ar.run .add .i64 1 r = 1 + r := arAdd (by omega)
    have e5 : Ar.run .add .i64 0 (1 + r) = 0 + (1 + r) := arAdd (by omega)
    have hA := mk ⟨r1.1, r1.2.1⟩ tb
    have ex : ∀ {nx' : Int} {Fe' Ge' : Nat → Int}, dlfM (.n3 m (PS pc m) k (GE (PS pc m) (loJ b s1 c1 w1 w2 m pc st zl) (hiJ b s2 c2 w1 w2 m pc st zh) (k - 1)) 1 nx' 1 b s1 s2 c1 c2 n m pc st zl zh k F G Fe' Ge' n w1 w2) < dlfM (.n1 m (PS pc m) k (GE (PS pc m) (loJ b s1 c1 w1 w2 m pc st zl) (hiJ b s2 c2 w1 w2 m pc st zh) (k - 1)) b s1 s2 c1 c2 n m pc st zl zh k F G n w1 w2) := fun {_ _ _} => show k - 1 < 10000 by omega
    obtain ⟨rf, t, rv, t1, t2, t3⟩ := h.reach (Int.le_refl 0) pos
    unfold dlfD
    by_cases ht : 0 < t
    · obtain ⟨tf, L, H, tv, l1, l2, l3⟩ := t3 ht
      have e6 : Ar.run .sub .i64 H L = H - L := arSub (by omega)
      have e7 : Ar.run .add .i64 (H - L) 1 = H - L + 1 := arAdd (by omega)
      have r4 := rem_pos (h15 0).1 (show (0 : Int) < H - L + 1 by omega)
      obtain ⟨u, hu⟩ : ∃ u, Ar.run .rem .i64 (a15 0) (H - L + 1) = u := ⟨_, rfl⟩
      rw [hu] at r4
      have e8 : Ar.run .add .i64 L u = L + u := arAdd (by omega)
      have hB := mk ⟨r1.1, r1.2.1⟩ (g := L + u) (by omega)
      simp only [DD.sat, Nat.zero_add, cmLss, cmLssF, cmLeq, cmLeqF, cmGtr, cmGtrF, cmGeq, cmGeqF, cmEql, cmEqlF, cmNeq, cmNeqF, decide_eq_true_eq, Bool.not_eq_true', Bool.not_eq_false', Int.toNat_zero, e2, b1, b2, hr, hx, hy, e3, e4, e5, e6, e7, hu, e8, rv, tv]
      repeat' (first
        | exact Nat.le_refl _
        | exact shape_ok fun i _ => rfl
        | exact hA
        | exact hB
        | exact ex
        | assumption
        | trivial
        | (intro hx; first | (exfalso; omega) | skip)
        | apply And.intro
        | omega)
    · simp only [DD.sat, Nat.zero_add, cmLss, cmLssF, cmLeq, cmLeqF, cmGtr, cmGtrF, cmGeq, cmGeqF, cmEql, cmEqlF, cmNeq, cmNeqF, decide_eq_true_eq, Bool.not_eq_true', Bool.not_eq_false', Int.toNat_zero, e2, b1, b2, hr, hx, hy, e3, e4, e5, rv]
      repeat' (first
        | exact Nat.le_refl _
        | exact shape_ok fun i _ => rfl
        | exact hA
        | exact ex
        | assumption
        | trivial
        | (intro hx; first | (exfalso; omega) | skip)
        | apply And.intro
        | omega)
  · have jf := fun (Fe Ge : Nat → Int) => (h.judge (c := 0) (Fe := Fe) (Ge := Ge) (by omega) FewL.nil).1
    obtain ⟨_, r, jv0, j1, j2⟩ := h.judge (c := 0) (Fe := fun _ => 0) (Ge := fun _ => 0) (by omega) FewL.nil
    have jz : ∀ Fe Ge : Nat → Int, ∃ r, AF.val (djuA b s1 s2 c1 c2 n (fun i => w1 i) (fun i => w2 i) m (fun i => pc i) (fun i => st i) (fun i => zl i) (fun i => zh i) 0 Fe Ge) = (r, 0) ∧ r < PS pc m ∧ r ≤ GE (PS pc m) (loJ b s1 c1 w1 w2 m pc st zl) (hiJ b s2 c2 w1 w2 m pc st zh) (k - 1) := fun Fe Ge => (h.judge (c := 0) (Fe := Fe) (Ge := Ge) (by omega) FewL.nil).2
    have jfE : ∀ Fe Ge : Nat → Int, AF.fin (djuA b s1 s2 c1 c2 n (fun i => w1 i) (fun i => w2 i) m (fun i => pc i) (fun i => st i) (fun i => zl i) (fun i => zh i) 0 Fe Ge) = true := jf
    have hend' : (a13 : Int) ≤ 0 ∨ (k : Int) - 1 ≤ 0 := by omega
    have pick : ∀ Fe Ge : Nat → Int, (AF.val (djuA b s1 s2 c1 c2 n (fun i => w1 i) (fun i => w2 i) m (fun i => pc i) (fun i => st i) (fun i => zl i) (fun i => zh i) 0 Fe Ge)).2 = 0 ∧ (AF.val (djuA b s1 s2 c1 c2 n (fun i => w1 i) (fun i => w2 i) m (fun i => pc i) (fun i => st i) (fun i => zl i) (fun i => zh i) 0 Fe Ge)).1 < PS pc m ∧ (AF.val (djuA b s1 s2 c1 c2 n (fun i => w1 i) (fun i => w2 i) m (fun i => pc i) (fun i => st i) (fun i => zl i) (fun i => zh i) 0 Fe Ge)).1 ≤ GE (PS pc m) (loJ b s1 c1 w1 w2 m pc st zl) (hiJ b s2 c2 w1 w2 m pc st zh) (k - 1) := fun Fe Ge => by
      obtain ⟨r, h1, h2, h3⟩ := jz Fe Ge
      rw [h1]
      exact ⟨rfl, h2, h3⟩
    have p1 := fun (Fe Ge : Nat → Int) => (pick Fe Ge).1
    have p2 := fun (Fe Ge : Nat → Int) => (pick Fe Ge).2.1
    have p3 := fun (Fe Ge : Nat → Int) => (pick Fe Ge).2.2
    have q2 : ∀ {P : Prop} (Fe Ge : Nat → Int), PS pc m ≤ (AF.val (djuA b s1 s2 c1 c2 n (fun i => w1 i) (fun i => w2 i) m (fun i => pc i) (fun i => st i) (fun i => zl i) (fun i => zh i) 0 Fe Ge)).1 → P := fun Fe Ge hx => absurd (p2 Fe Ge) (Int.not_lt.2 hx)
    have q3 : ∀ {P : Prop} (Fe Ge : Nat → Int), GE (PS pc m) (loJ b s1 c1 w1 w2 m pc st zl) (hiJ b s2 c2 w1 w2 m pc st zh) (k - 1) < (AF.val (djuA b s1 s2 c1 c2 n (fun i => w1 i) (fun i => w2 i) m (fun i => pc i) (fun i => st i) (fun i => zl i) (fun i => zh i) 0 Fe Ge)).1 → P := fun Fe Ge hx => absurd (p3 Fe Ge) (Int.not_le.2 hx)
    clear jv0 j1 j2 jz jf pick
    unfold dlfD
    simp only [DD.sat, Nat.zero_add, cmLss, cmLssF, cmLeq, cmLeqF, cmGtr, cmGtrF, cmGeq, cmGeqF, cmEql, cmEqlF, cmNeq, cmNeqF, decide_eq_true_eq, Bool.not_eq_true', Bool.not_eq_false', e2, p1]
    generalize GE (PS pc m) (loJ b s1 c1 w1 w2 m pc st zl) (hiJ b s2 c2 w1 w2 m pc st zh) (k - 1) = less at *
    repeat' (first
      | exact Nat.le_refl _
      | exact shape_ok fun i _ => rfl
      | exact jfE _ _
      | assumption
      | trivial
      | exact q2 _ _
      | exact q3 _ _
      | (intro hx; first | (exfalso; omega) | skip)
      | apply And.intro
      | omega)
theorem dlf_run (a0 : Bool) (a1 a2 : Int) (a3 : Nat) (a4 a5 : Nat → Int) (a6 : Nat) (a7 a8 a9 a10 : Nat → Int) (a11 : Nat) (a12 : Nat → Int) (a13 : Nat) (a14 a15 : Nat → Int) (h1 : 0 ≤ a1 ∧ a1 ≤ 255) (h2 : 0 ≤ a2 ∧ a2 ≤ 255) (_ : a3 ≤ 9223372036854775807) (h4 : ∀ i, 0 ≤ a4 i ∧ a4 i ≤ 255) (h5 : ∀ i, 0 ≤ a5 i ∧ a5 i ≤ 255) (_ : a6 ≤ 9223372036854775807) (h7 : ∀ i, 0 ≤ a7 i ∧ a7 i ≤ 255) (h8 : ∀ i, 0 ≤ a8 i ∧ a8 i ≤ 255) (h9 : ∀ i, 0 ≤ a9 i ∧ a9 i ≤ 255) (h10 : ∀ i, 0 ≤ a10 i ∧ a10 i ≤ 255) (h11 : a11 ≤ 9223372036854775807) (h12 : ∀ i, 0 ≤ a12 i ∧ a12 i ≤ 255) (h13 : a13 ≤ 9223372036854775807) (h14 : ∀ i, 0 ≤ a14 i ∧ a14 i ≤ 255) (h15 : ∀ i, 0 ≤ a15 i ∧ a15 i ≤ 255) :
    ∃ n v, AF.run (dlfA a0 a1 a2 a3 a4 a5 a6 a7 a8 a9 a10 a11 a12 a13 a14 a15) n = some v ∧ v = true := by
  refine AF.run_sat (E := fun v => v = true) (Inv := FewI a13) dlfM (fun b => rfl) (fun b h => ?_) (dlf_sat a0 a1 a2 a3 a4 a5 a6 a7 a8 a9 a10 a11 a12 a13 a14 a15 h1 h2 h4 h5 h7 h8 h9 h10)
  cases b with
  | n0 m T k b s1 s2 c1 c2 n pc st zl zh F G w1 w2 =>
    obtain ⟨h, rfl⟩ := h
    exact dlf_n0 a0 a1 a2 a3 a4 a5 a6 a7 a8 a9 a10 a11 a12 a13 a14 a15 h
  | n1 m T k less b s1 s2 c1 c2 n m' pc st zl zh k' F G n' w1 w2 =>
    obtain ⟨h, ⟨rfl, rfl, rfl, rfl⟩, rfl⟩ := h
    exact dlf_n1 a0 a1 a2 a3 a4 a5 a6 a7 a8 a9 a10 a11 a12 a13 a14 a15 h14 h15 h
  | n2 m T k c i b s1 s2 c1 c2 n m' pc st zl zh k' F G S n' w1 w2 =>
    obtain ⟨h, ⟨rfl, rfl, rfl, rfl⟩, rfl, hc, hS⟩ := h
    exact dlf_n2 a0 a1 a2 a3 a4 a5 a6 a7 a8 a9 a10 a11 a12 a13 a14 a15 h hc hS
  | n3 m T k less c nx i b s1 s2 c1 c2 n m' pc st zl zh k' F G Fe Ge n' w1 w2 =>
    obtain ⟨h, ⟨rfl, rfl, rfl, rfl⟩, rfl, rfl, hc, hi, hl⟩ := h
    exact dlf_n3 a0 a1 a2 a3 a4 a5 a6 a7 a8 a9 a10 a11 a12 a13 a14 a15 h14 h15 h hc (by omega) hl
end Go.Proofs.Ythagjhadjpangaa.Cx

/- ARGUMENTS THAT ARE SLICES: opened as lists; the memory in which they lie as blocks that are read alone; a law's contract as its statement's walk. -/
namespace Go.Proofs.Ythagjhadjpangaa.Cx
set_option linter.unusedSimpArgs false
set_option linter.unusedVariables false
open Go Go.RowKit Go.ChangeShapes Go.WideShapes Go.Deep Go.Proofs.Ythagjhadjpangaa
/-! ## Such slices as blocks -/
section
variable {P : Program} {ρ : Env}
/-- Where a slice's rows lie. -/
noncomputable def locOf (w : World) (v : Value) (z : Nat) : Option Loc :=
  match v with
  | .slice (some a) (_ + 1) _ => match w.heap[a.block]? with
    | some (.cells c _ _) => some ⟨a.block, a.off, c.size, z⟩
    | _ => none
  | _ => none
theorem rows_rel {α : Type} {en : α → List Value} {ec : α → List CV} {d : α} (he : ∀ σ x, VRl ρ σ (ec x) (en x)) (σ : Mp) : ∀ (xs : List α) (n : Nat), n ≤ xs.length → VRl ρ σ (flatR (fun j => ec (xs.getD j d)) n) ((xs.take n).flatMap en)
  | xs, 0, _ => by simpa [flatR] using VRl.nil
  | xs, n + 1, h => by
    have ih := rows_rel (d := d) he σ xs n (by omega)
    rw [flatR, List.take_add_one, List.flatMap_append]
    refine ih.append ?_
    have hn : n < xs.length := by omega
    rw [List.getElem?_eq_getElem hn, List.getD_eq_getElem?_getD, List.getElem?_eq_getElem hn]
    simpa using he σ xs[n]
theorem SlR.rel {α : Type} {en : α → List Value} {ec : α → List CV} {d : α} {z : Nat} {w : World} {v : Value} {xs : List α} {σ : Mp} {b : Nat} (h : SlR en z w v xs) (hz : ∀ x, (en x).length = z) (he : ∀ σ x, VRl ρ σ (ec x) (en x))
    (hk : ∀ j, (ec (xs.getD j d)).length = z ∧ (ec (xs.getD j d)).all CV.flat = true) (hσ : σ b = locOf w v z) :
    VR ρ σ (.sla b z 0 xs.length) v ∧ ArgAt ρ w ⟨.arg xs.length z (fun j => ec (xs.getD j d)) hk, z, true, none⟩ (σ b) := by
  obtain ⟨a, cap, rfl, hcap, _, hx⟩ := h
  have hcl : Blk.cells ⟨.arg xs.length z (fun j => ec (xs.getD j d)) hk, z, true, none⟩ = flatR (fun j => ec (xs.getD j d)) xs.length := rfl
  have hlen := flatR_length (fun j => (hk j).1) xs.length
  rcases hx with rfl | ⟨bl, off, c, t, p, rfl, hh, hsz, hrow⟩
  · refine ⟨.sla0 _ _, rfl, rfl, rfl, fun l hl => ?_⟩
    rw [hσ] at hl
    simp [locOf] at hl
  · cases xs with
    | nil =>
      refine ⟨.sla0 _ _, rfl, rfl, rfl, fun l hl => ?_⟩
      rw [hσ] at hl
      simp [locOf] at hl
    | cons x xs =>
      have hlo : locOf w (.slice (some ⟨bl, off, none⟩) (x :: xs).length cap) z = some ⟨bl, off, c.size, z⟩ := by
        simp [locOf, hh]
      rw [hlo] at hσ
      refine ⟨?_, rfl, rfl, rfl, fun l hl => ?_⟩
      · have := VR.sla (ρ := ρ) (σ := σ) (b := b) (z := z) (o := 0) (n := (x :: xs).length) (c' := cap) hσ hcap
        simpa using this
      · rw [hσ] at hl
        obtain rfl := Option.some.inj hl
        refine ⟨c, t, p, hh, rfl, rfl, by rw [hcl, hlen]; exact hsz, fun τ => ?_⟩
        rw [hcl, hlen, hrow]
        have := rows_rel (ρ := ρ) (d := d) he τ (x :: xs) (x :: xs).length (Nat.le_refl _)
        rwa [List.take_of_length_le (Nat.le_refl _)] at this
/-- A law's contract, as its statement's walk. -/
theorem Ctr.law {f : Nat} {args : List CV} {h0 h1 : Tr Blk} {base n1 : Nat} {e : BE} {w : World} {σ : Mp} {args' : Array Value} (K : Ctr P ρ f args h0 base [] (.bool e) h1 n1) (he : e.den ρ = true) (ha : VRl ρ σ args args'.toList) (hH : HR ρ σ (curOf h0 base) w) (hN : ∀ b, base ≤ b → σ b = none) :
    Calls P f args' w fun e w' => e = .returned (.bool true) ∧ Below w.heap.size w w' := by
  refine ((K.run 0 σ w args' ha hH hN).calls (fun k d h => by cases h)).mono ?_
  rintro e' w' ⟨v, rfl, σ', h1, h2, h3, h4, h5⟩
  cases h2
  refine ⟨by rw [he], h4.os, h4.tape, h4.output, h4.size, fun k hk => h4.block k hk (fun b hb l hl => ?_)⟩
  rcases hb with hb | hb
  · cases hb
  · rw [hN b hb] at hl; cases hl
end
end Go.Proofs.Ythagjhadjpangaa.Cx

/- ARGUMENTS OF LAWS, OPENED BY THEIR TYPES: integers, bools, structs, arrays, and slices of rows of integers and bools (a table each); the memory in which these lie. -/
namespace Go.Proofs.Ythagjhadjpangaa.Cx
set_option linter.unusedSimpArgs false
set_option linter.unusedVariables false
open Go Go.RowKit Go.ChangeShapes Go.WideShapes Go.Deep Go.Proofs.Ythagjhadjpangaa
/-! ## What the cells of a type are -/
inductive CK where
  | int (k : IntKind)
  | bool
  | tab (ks : List (Option IntKind))
def flatCK : List CK → Option (List (Option IntKind))
  | [] => some []
  | .int k :: l => match flatCK l with | some m => some (some k :: m) | none => none
  | .bool :: l => match flatCK l with | some m => some (none :: m) | none => none
  | .tab _ :: _ => none
def ckFs (P : Program) (f : TypeId → Option (List CK)) : Nat → List Field → Option (List CK)
  | _, [] => some []
  | off, fd :: l => match f fd.type with
    | some ks => bif Nat.beq fd.offset off && Nat.beq (P.cellsOf fd.type) ks.length then (match ckFs P f (off + ks.length) l with | some m => some (ks ++ m) | none => none) else none
    | none => none
def repL {α : Type} : Nat → List α → List α
  | 0, _ => []
  | n + 1, l => repL n l ++ l
def ckOf (P : Program) : Nat → TypeId → Option (List CK)
  | 0, _ => none
  | d + 1, t => match P.underlying t with
    | some (.int k) => some [.int k]
    | some .bool => some [.bool]
    | some (.struct fs) => match ckFs P (ckOf P d) 0 fs.toList with
      | some ks => bif Nat.beq (P.cellsOf t) ks.length then some ks else none
      | none => none
    | some (.array n e) => match ckOf P d e with
      | some ks => bif Nat.beq (P.cellsOf e) ks.length && Nat.beq (P.cellsOf t) (n * ks.length) then some (repL n ks) else none
      | none => none
    | some (.slice e) => match ckOf P d e with
      | some ks => match flatCK ks with
        | some l => bif Nat.beq (P.cellsOf e) l.length && Nat.blt 0 l.length then some [.tab l] else none
        | none => none
      | none => none
    | _ => none
/-! ## Rows -/
/-- The cells of a row: integers and bools, by their places. -/
structure RowV where
  c : Nat → Int
  g : Nat → Bool
def RowV.zero : RowV := ⟨fun _ => 0, fun _ => false⟩
def enV (r : RowV) : List (Option IntKind) → Nat → List Value
  | [], _ => []
  | some k :: ks, j => .int k (r.c j) :: enV r ks (j + 1)
  | none :: ks, j => .bool (r.g j) :: enV r ks (j + 1)
def okV (ks : List (Option IntKind)) (r : RowV) : Prop := ∀ j k, ks[j]? = some (some k) → (Lit.int k (r.c j)).wf = true
theorem enV_length (r : RowV) : ∀ (ks : List (Option IntKind)) (j : Nat), (enV r ks j).length = ks.length
  | [], _ => rfl
  | some k :: ks, j => congrArg Nat.succ (enV_length r ks (j + 1))
  | none :: ks, j => congrArg Nat.succ (enV_length r ks (j + 1))
/-- The cells of an argument: such, and slices of rows. -/
structure RowW where
  c : Nat → Int
  g : Nat → Bool
  s : Nat → Value
  t : Nat → List RowV
def enW (r : RowW) : List CK → Nat → List Value
  | [], _ => []
  | .int k :: ks, j => .int k (r.c j) :: enW r ks (j + 1)
  | .bool :: ks, j => .bool (r.g j) :: enW r ks (j + 1)
  | .tab _ :: ks, j => r.s j :: enW r ks (j + 1)
/-- A slice of such rows. -/
def SlT (ks : List (Option IntKind)) (w : World) (v : Value) (xs : List RowV) : Prop := SlR (fun r => enV r ks 0) ks.length w v xs ∧ ∀ x ∈ xs, okV ks x
def cellW (w : World) : CK → Value → Prop
  | .int k, v => ∃ z, v = .int k z ∧ (Lit.int k z).wf = true
  | .bool, v => ∃ b, v = .bool b
  | .tab ks, v => ∃ xs, SlT ks w v xs
inductive Mt (w : World) : List CK → List Value → Prop
  | nil : Mt w [] []
  | cons {k : CK} {v : Value} {ks : List CK} {vs : List Value} (h : cellW w k v) (t : Mt w ks vs) : Mt w (k :: ks) (v :: vs)
theorem Mt.append {w : World} {a b : List CK} {x y : List Value} (h : Mt w a x) (h' : Mt w b y) : Mt w (a ++ b) (x ++ y) := by
  induction h with
  | nil => exact h'
  | cons h _ ih => exact .cons h ih
theorem Mt.length {w : World} {a : List CK} {x : List Value} (h : Mt w a x) : x.length = a.length := by
  induction h with
  | nil => rfl
  | cons h _ ih => simp [ih]
/-- What the cells' places hold. -/
noncomputable def rowW (w : World) (ks : List CK) (vs : List Value) : RowW :=
  ⟨fun j => match vs[j]? with | some (.int _ z) => z | _ => 0, fun j => match vs[j]? with | some (.bool b) => b | _ => false, fun j => vs.getD j (.bool false),
   fun j => match ks[j]? with | some (.tab l) => @dite _ (∃ xs, SlT l w (vs.getD j (.bool false)) xs) (Classical.propDecidable _) (fun h => Classical.choose h) (fun _ => []) | _ => []⟩
def okW (w : World) (ks : List CK) (r : RowW) : Prop := (∀ j k, ks[j]? = some (.int k) → (Lit.int k (r.c j)).wf = true) ∧ ∀ j l, ks[j]? = some (.tab l) → SlT l w (r.s j) (r.t j)
theorem Mt.get {w : World} {ks : List CK} {vs : List Value} (h : Mt w ks vs) : ∀ {j : Nat} {k : CK}, ks[j]? = some k → ∃ v, vs[j]? = some v ∧ cellW w k v := by
  induction h with
  | nil => intro j k h; simp at h
  | cons h _ ih =>
    intro j k hj
    cases j with
    | zero => simp at hj; subst hj; exact ⟨_, rfl, h⟩
    | succ j => simpa using ih (by simpa using hj)
theorem Mt.row {w : World} {ks : List CK} {vs : List Value} (h : Mt w ks vs) : vs = enW (rowW w ks vs) ks 0 ∧ okW w ks (rowW w ks vs) := by
  have key : ∀ (n : Nat) (pre post : List CK) (a b : List Value), ks = pre ++ post → vs = a ++ b → a.length = pre.length → b.length = post.length → post.length = n → b = enW (rowW w ks vs) post pre.length := by
    intro n
    induction n with
    | zero =>
      intro pre post a b h1 h2 h3 h4 h5
      cases post with
      | nil => cases b with
        | nil => rfl
        | cons x b => simp at h4
      | cons x l => simp at h5
    | succ n ih =>
      intro pre post a b h1 h2 h3 h4 h5
      cases post with
      | nil => simp at h5
      | cons k post =>
        cases b with
        | nil => simp at h4
        | cons v b =>
          have hk : ks[pre.length]? = some k := by rw [h1]; simp
          have hv : vs[pre.length]? = some v := by rw [h2, ← h3]; simp
          obtain ⟨v', hv', hc⟩ := h.get hk
          rw [hv] at hv'
          obtain rfl := Option.some.inj hv'
          have ih' := ih (pre ++ [k]) post (a ++ [v]) b (by simp [h1]) (by simp [h2]) (by simp [h3]) (by simpa using h4) (by simpa using h5)
          rw [List.length_append, List.length_singleton] at ih'
          have hd : vs.getD pre.length (.bool false) = v := by rw [List.getD_eq_getElem?_getD, hv]; rfl
          cases k with
          | int k =>
            obtain ⟨z, rfl, _⟩ := hc
            rw [enW, ← ih']
            congr 1
            simp [rowW, hv]
          | bool =>
            obtain ⟨z, rfl⟩ := hc
            rw [enW, ← ih']
            congr 1
            simp [rowW, hv]
          | tab l =>
            rw [enW, ← ih']
            congr 1
            exact hd.symm
  refine ⟨key ks.length [] ks [] vs rfl rfl rfl h.length rfl, fun j k hk => ?_, fun j l hl => ?_⟩
  · obtain ⟨v, hv, z, rfl, hz⟩ := h.get hk
    simpa [rowW, hv] using hz
  · obtain ⟨v, hv, xs, hx⟩ := h.get hl
    have hd : vs.getD j (.bool false) = v := by rw [List.getD_eq_getElem?_getD, hv]; rfl
    have hex : ∃ xs, SlT l w (vs.getD j (.bool false)) xs := ⟨xs, by rw [hd]; exact hx⟩
    have e : (rowW w ks vs).t j = Classical.choose hex := by
      simp only [rowW, hl]
      rw [dif_pos hex]
    rw [e]
    exact Classical.choose_spec hex
/-- Cells of a row, as a row. -/
theorem Mt.flat {w : World} {cks : List CK} {vs : List Value} (h : Mt w cks vs) : ∀ {ks : List (Option IntKind)}, flatCK cks = some ks → ∃ r : RowV, vs = enV r ks 0 ∧ okV ks r := by
  have key : ∀ {cks : List CK} {vs : List Value}, Mt w cks vs → ∀ {ks : List (Option IntKind)}, flatCK cks = some ks → ∀ (r : RowV) (j : Nat), ∃ r' : RowV, vs = enV r' ks j ∧ (∀ i k, ks[i]? = some (some k) → (Lit.int k (r'.c (j + i))).wf = true) ∧ ∀ i, i < j → r'.c i = r.c i ∧ r'.g i = r.g i := by
    intro cks vs h
    induction h with
    | nil =>
      intro ks hk r j
      simp only [flatCK] at hk
      cases hk
      exact ⟨r, rfl, fun i k h => by simp at h, fun i _ => ⟨rfl, rfl⟩⟩
    | @cons k v cks vs hc _ ih =>
      intro ks hk r j
      cases k with
      | int k =>
        simp only [flatCK] at hk
        split at hk
        · rename_i m hm
          cases hk
          obtain ⟨z, rfl, hz⟩ := hc
          obtain ⟨r', h1, h2, h3⟩ := ih hm ⟨fun i => if i = j then z else r.c i, r.g⟩ (j + 1)
          have hj := h3 j (by omega)
          simp only [if_true] at hj
          refine ⟨r', by rw [enV, hj.1, ← h1], fun i k' hk' => ?_, fun i hi => ?_⟩
          · cases i with
            | zero => simp at hk'; subst hk'; rw [Nat.add_zero, hj.1]; exact hz
            | succ i => have := h2 i k' (by simpa using hk'); rwa [show j + 1 + i = j + (i + 1) by omega] at this
          · have := h3 i (by omega)
            simp only [if_neg (show i ≠ j by omega)] at this
            exact this
        · cases hk
      | bool =>
        simp only [flatCK] at hk
        split at hk
        · rename_i m hm
          cases hk
          obtain ⟨z, rfl⟩ := hc
          obtain ⟨r', h1, h2, h3⟩ := ih hm ⟨r.c, fun i => if i = j then z else r.g i⟩ (j + 1)
          have hj := h3 j (by omega)
          simp only [if_true] at hj
          refine ⟨r', by rw [enV, hj.2, ← h1], fun i k' hk' => ?_, fun i hi => ?_⟩
          · cases i with
            | zero => simp at hk'
            | succ i => have := h2 i k' (by simpa using hk'); rwa [show j + 1 + i = j + (i + 1) by omega] at this
          · have := h3 i (by omega)
            simp only [if_neg (show i ≠ j by omega)] at this
            exact this
        · cases hk
      | tab l => simp [flatCK] at hk
  intro ks hk
  obtain ⟨r', h1, h2, _⟩ := key h hk RowV.zero 0
  exact ⟨r', h1, fun j k hj => by have := h2 j k hj; rwa [Nat.zero_add] at this⟩
section
variable {H : Type} {enc : TypeId × Value → H} {P : Program} {w : World} {base : Nat} {spare : Nat → Bool} {held : Bool}
theorem seg_add {α : Type} (cs : List α) (o a b : Nat) : (cs.drop o).take (a + b) = (cs.drop o).take a ++ (cs.drop (o + a)).take b := by
  rw [List.take_add, List.drop_drop]
theorem ckFs_ok {f : TypeId → Option (List CK)} {cs : List Value} (hf : ∀ t ks, f t = some ks → ∀ n vs y, DataW.trod enc P w base spare held n t vs = some y → Mt w ks vs) :
    ∀ (l : List Field) (off : Nat) (ks : List CK), ckFs P f off l = some ks → (∀ (i : Nat) (fd : Field), l[i]? = some fd → ∃ n y, DataW.trod enc P w base spare held n fd.type ((cs.drop fd.offset).take (P.cellsOf fd.type)) = some y) → Mt w ks ((cs.drop off).take ks.length)
  | [], off, ks, h, _ => by
    simp only [ckFs] at h
    cases h
    simpa using Mt.nil
  | fd :: l, off, ks, h, ht => by
    simp only [ckFs] at h
    split at h
    · rename_i k1 hk1
      cases hc : (Nat.beq fd.offset off && Nat.beq (P.cellsOf fd.type) k1.length) with
      | false => rw [hc, cond_false] at h; cases h
      | true =>
        rw [hc, cond_true] at h
        simp only [Bool.and_eq_true] at hc
        have e1 := Nat.eq_of_beq_eq_true hc.1
        have e2 := Nat.eq_of_beq_eq_true hc.2
        split at h
        · rename_i m hm
          cases h
          obtain ⟨n, y, hy⟩ := ht 0 fd rfl
          rw [e1, e2] at hy
          have h1 := hf _ _ hk1 _ _ _ hy
          have h2 := ckFs_ok hf l (off + k1.length) m hm fun i fd' hi => ht (i + 1) fd' (by simpa using hi)
          rw [List.length_append, seg_add]
          exact h1.append h2
        · cases h
    · cases h
theorem repL_ok {cs : List Value} {ks : List CK} {z : Nat} (hz : ks.length = z) : ∀ (n : Nat), (∀ i, i < n → Mt w ks ((cs.drop (i * z)).take z)) → Mt w (repL n ks) (cs.take (n * z))
  | 0, _ => by simpa [repL] using Mt.nil
  | n + 1, h => by
    have ih := repL_ok hz n fun i hi => h i (by omega)
    rw [repL, Nat.succ_mul, List.take_add]
    exact ih.append (h n (by omega))
theorem ckOf_ok : ∀ (d : Nat) (t : TypeId) (ks : List CK), ckOf P d t = some ks → ∀ n cs y, DataW.trod enc P w base spare held n t cs = some y → Mt w ks cs
  | 0, _, _, h => by simp [ckOf] at h
  | d + 1, t, ks, h => by
    intro n cs y hy
    unfold ckOf at h
    split at h
    · rename_i k hk
      cases h
      obtain ⟨z, rfl, _, hw⟩ := DataW.trod_int hk hy
      exact .cons ⟨z, rfl, hw⟩ .nil
    · rename_i hk
      cases h
      obtain ⟨b, rfl, _⟩ := DataW.trod_bool hk hy
      exact .cons ⟨b, rfl⟩ .nil
    · rename_i fs hk
      split at h
      · rename_i l hl
        cases hc : Nat.beq (P.cellsOf t) l.length with
        | false => rw [hc, cond_false] at h; cases h
        | true =>
          rw [hc, cond_true] at h
          cases h
          have hlen := Nat.eq_of_beq_eq_true hc
          obtain ⟨xs, m, _, _, hcl, hxl, hg⟩ := DataW.trod_struct hk hy
          have := ckFs_ok (ckOf_ok d) fs.toList 0 _ hl (cs := cs) fun i fd hi => by
            have hi' : fs[i]? = some fd := by simpa using hi
            have hlt : i < xs.length := by rw [hxl]; exact (Array.getElem?_eq_some_iff.1 hi').1
            exact ⟨m, xs[i], by rw [hg i fd hi']; exact List.getElem?_eq_getElem hlt⟩
          rwa [List.drop_zero, List.take_of_length_le (by omega)] at this
      · cases h
    · rename_i m e hk
      split at h
      · rename_i l hl
        cases hc : (Nat.beq (P.cellsOf e) l.length && Nat.beq (P.cellsOf t) (m * l.length)) with
        | false => rw [hc, cond_false] at h; cases h
        | true =>
          rw [hc, cond_true] at h
          cases h
          simp only [Bool.and_eq_true] at hc
          have e1 := Nat.eq_of_beq_eq_true hc.1
          have e2 := Nat.eq_of_beq_eq_true hc.2
          obtain ⟨xs, q, _, _, hcl, hxl, hg⟩ := DataW.trod_array hk hy
          have := repL_ok (w := w) (cs := cs) (ks := l) rfl m fun i hi => by
            have h1 := hg i hi
            rw [e1, List.getElem?_eq_getElem (by omega)] at h1
            exact ckOf_ok d _ _ hl _ _ _ h1
          rwa [List.take_of_length_le (by omega)] at this
      · cases h
    · rename_i e hk
      split at h
      · rename_i ck hck
        split at h
        · rename_i l hl
          cases hc : (Nat.beq (P.cellsOf e) l.length && Nat.blt 0 l.length) with
          | false => rw [hc, cond_false] at h; cases h
          | true =>
            rw [hc, cond_true] at h
            cases h
            simp only [Bool.and_eq_true] at hc
            obtain ⟨v, xs, rfl, h1, h2⟩ := sl_open (en := fun r => enV r l 0) (ok := okV l) (z := l.length) (Nat.lt_of_succ_le (Nat.le_of_ble_eq_true hc.2)) (fun x => enV_length _ _ _) hk (Nat.eq_of_beq_eq_true hc.1)
              (fun n cs y _ hy => (ckOf_ok d _ _ hck _ _ _ hy).flat hl) hy
            exact .cons ⟨xs, h1, h2⟩ .nil
        · cases h
      · cases h
    · cases h
/-- An argument, opened. -/
theorem open_agg {t : TypeId} {r : Reach} {b0 : Nat} {v : Value} {d : DataW H} {p : List MemPlace} {dp : Nat} {ks : List CK} (hk : ckOf P dp t = some ks) (hs : (∃ fs, P.underlying t = some (.struct fs)) ∨ ∃ n e, P.underlying t = some (.array n e))
    (hval : Value.okWide P w r b0 t v) (h : DataW.Trod enc P w base spare held t v d p) : ∃ x : RowW, v = .agg (enW x ks 0).toArray ∧ okW w ks x := by
  obtain ⟨cs, rfl⟩ : ∃ cs, v = .agg cs := by
    rcases hs with ⟨fs, hs⟩ | ⟨n, e, hs⟩
    · obtain ⟨cs, h1, _⟩ := okWide_struct hs hval; exact ⟨cs, h1⟩
    · obtain ⟨cs, h1, _⟩ := okWide_arr hs hval; exact ⟨cs, h1⟩
  obtain ⟨fuel, hf⟩ := h
  have hm := ckOf_ok dp t ks hk _ _ _ hf
  obtain ⟨h1, h2⟩ := hm.row
  refine ⟨_, ?_, h2⟩
  rw [← h1]
  simp [Value.cells]
theorem open_slT {t : TypeId} {r : Reach} {b0 : Nat} {v : Value} {d : DataW H} {p : List MemPlace} {dp : Nat} {l : List (Option IntKind)} {e : TypeId} (hk : ckOf P dp t = some [.tab l]) (hs : P.underlying t = some (.slice e))
    (hval : Value.okWide P w r b0 t v) (h : DataW.Trod enc P w base spare held t v d p) : ∃ xs, SlT l w v xs := by
  obtain ⟨a, len, cap, rfl⟩ := okWide_slice hs hval
  obtain ⟨fuel, hf⟩ := h
  have hm := ckOf_ok dp t _ hk _ _ _ hf
  have e : (Value.slice a len cap).cells.toList = [Value.slice a len cap] := rfl
  rw [e] at hm
  cases hm with
  | cons h _ => exact h
end
/-! ## Slices as tables -/
def tabV (xs : List RowV) : Tab := ⟨xs.length, fun j i => (xs.getD i RowV.zero).c j, fun j i => (xs.getD i RowV.zero).g j⟩
theorem rowCs_sl {c c' : Nat → Nat → Int} {g g' : Nat → Nat → Bool} {i i' : Nat} (hc : ∀ j, c j i = c' j i') (hg : ∀ j, g j i = g' j i') : ∀ (ks : List (Option IntKind)) (j : Nat), rowCs c g i ks j = rowCs c' g' i' ks j
  | [], _ => rfl
  | some k :: ks, j => by rw [rowCs, rowCs, hc j, rowCs_sl hc hg ks]
  | none :: ks, j => by rw [rowCs, rowCs, hg j, rowCs_sl hc hg ks]
theorem enV_rel {ρ : Env} {σ : Mp} (r : RowV) : ∀ (ks : List (Option IntKind)) (j : Nat), VRl ρ σ (rowCs (fun j _ => r.c j) (fun j _ => r.g j) 0 ks j) (enV r ks j)
  | [], _ => .nil
  | some k :: ks, j => .cons (.int k (.x (r.c j))) (enV_rel r ks (j + 1))
  | none :: ks, j => .cons (.bool (.x (r.g j))) (enV_rel r ks (j + 1))
theorem ArgAt.rows_eq {ρ : Env} {w : World} {n z : Nat} {f g : Nat → List CV} {hf : ∀ j, (f j).length = z ∧ (f j).all CV.flat = true} {hg : ∀ j, (g j).length = z ∧ (g j).all CV.flat = true} {lo : Option Loc} (e : f = g) (h : ArgAt ρ w ⟨.arg n z f hf, z, true, none⟩ lo) : ArgAt ρ w ⟨.arg n z g hg, z, true, none⟩ lo := by
  subst e; exact h
structure SlV where
  v : Value
  ks : List (Option IntKind)
  xs : List RowV
noncomputable def sigV (w : World) (S : List SlV) : Mp := fun b => match S[b]? with | some s => locOf w s.v s.ks.length | none => none
def heapV : Nat → List SlV → List (Nat × Blk)
  | _, [] => []
  | i, s :: l => (i, tabB s.ks (tabV s.xs)) :: heapV (i + 1) l
theorem sigV_none {w : World} {S : List SlV} {b : Nat} (h : S.length ≤ b) : sigV w S b = none := by
  unfold sigV; rw [List.getElem?_eq_none h]
theorem SlT.both {ρ : Env} {w : World} {S : List SlV} {b : Nat} {s : SlV} (hb : S[b]? = some s) (h : SlT s.ks w s.v s.xs) : VR ρ (sigV w S) (.sla b s.ks.length 0 s.xs.length) s.v ∧ ArgAt ρ w (tabB s.ks (tabV s.xs)) (sigV w S b) := by
  obtain ⟨h1, h2⟩ := SlR.rel (ρ := ρ) (σ := sigV w S) (b := b) (ec := fun r => rowCs (fun j _ => r.c j) (fun j _ => r.g j) 0 s.ks 0) (d := RowV.zero) h.1 (fun x => enV_length _ _ _) (fun σ x => enV_rel x s.ks 0) (fun j => rowCs_ok _ _ _ _ _) (by unfold sigV; rw [hb])
  have e : (fun j => rowCs (fun j' _ => (s.xs.getD j RowV.zero).c j') (fun j' _ => (s.xs.getD j RowV.zero).g j') 0 s.ks 0) = fun i => rowCs (tabV s.xs).c (tabV s.xs).g i s.ks 0 := funext fun i => rowCs_sl (c := fun j' _ => (s.xs.getD i RowV.zero).c j') (g := fun j' _ => (s.xs.getD i RowV.zero).g j') (fun _ => rfl) (fun _ => rfl) _ _
  have h3 := ArgAt.rows_eq (hg := fun i => rowCs_ok (tabV s.xs).c (tabV s.xs).g i s.ks 0) e h2
  exact ⟨h1, h3⟩
theorem SlT.rel {ρ : Env} {w : World} {S : List SlV} (b : Nat) {s : SlV} (hb : S[b]? = some s) (h : SlT s.ks w s.v s.xs) : VR ρ (sigV w S) (.sla b s.ks.length 0 s.xs.length) s.v := (h.both hb).1
theorem SlT.len {ks : List (Option IntKind)} {w : World} {v : Value} {xs : List RowV} (h : SlT ks w v xs) : xs.length ≤ 9223372036854775807 := by
  obtain ⟨⟨a, cap, _, _, hl, _⟩, _⟩ := h
  exact hl
theorem SlT.wf {ks : List (Option IntKind)} {w : World} {v : Value} {xs : List RowV} (h : SlT ks w v xs) (j : Nat) (k : IntKind) (hk : ks[j]? = some (some k)) (h0 : (Lit.int k 0).wf = true) (i : Nat) : (Lit.int k ((tabV xs).c j i)).wf = true := by
  show (Lit.int k ((xs.getD i RowV.zero).c j)).wf = true
  by_cases hi : i < xs.length
  · rw [List.getD_eq_getElem?_getD, List.getElem?_eq_getElem hi]
    exact h.2 _ (List.getElem_mem hi) j k hk
  · rw [List.getD_eq_getElem?_getD, List.getElem?_eq_none (by omega)]
    exact h0
theorem heapV_get {ρ : Env} {w : World} : ∀ (l : List SlV) (i : Nat) (S : List SlV), (∀ j s, l[j]? = some s → S[i + j]? = some s) → (∀ s ∈ l, SlT s.ks w s.v s.xs) → ∀ b k, (mkH (heapV i l)).get b = some k → ArgAt ρ w k (sigV w S b)
  | [], i, S, _, _, b, k, h => by
    simp only [heapV, mkH] at h
    cases h
  | s :: l, i, S, hS, hT, b, k, h => by
    have h : ((mkH (heapV (i + 1) l)).set i (tabB s.ks (tabV s.xs))).get b = some k := h
    rw [Tr.get_set] at h
    split at h
    · rename_i hb
      cases h
      have := hS 0 s rfl
      rw [Nat.add_zero] at this
      rw [hb]
      exact ((hT s (by simp)).both this).2
    · exact heapV_get l (i + 1) S (fun j s' hj => by rw [show i + 1 + j = i + (j + 1) by omega]; exact hS (j + 1) s' (by simpa using hj)) (fun s' hs => hT s' (by simp [hs])) b k h
theorem argsV {ρ : Env} {w : World} (S : List SlV) (base : Nat) (hS : ∀ s ∈ S, SlT s.ks w s.v s.xs) (hL : Laid w) : HR ρ (sigV w S) (curOf (mkH (heapV 0 S)) base) w :=
  HR.ofArgs hL fun i k _ hk => heapV_get S 0 S (fun j s h => by rw [Nat.zero_add]; exact h) hS i k hk
end Go.Proofs.Ythagjhadjpangaa.Cx

/- DieFewer holds, for all inputs: by its automaton. Made by tools/cxlaws.py. -/
namespace Go.Proofs.Ythagjhadjpangaa
set_option linter.unusedVariables false
set_option linter.unusedSimpArgs false
open Go.ChangeShapes Go.WideShapes Go.ChangeAt Go.RowKit
open Cx (Env IE BE DT KnownB)
set_option maxRecDepth 100000 in
theorem dfewer_open0 {H : Type} {enc : TypeId × Value → H} {w : World} {base : Nat} {spare : Nat → Bool} {held : Bool} {r : Reach} {b0 : Nat} {vv : Value} {d : DataW H} {p : List MemPlace} (hval : Value.okWide Try.prog w r b0 79 vv) (h : DataW.Trod enc Try.prog w base spare held 79 vv d p) :
    ∃ y0 : Cx.RowW, vv = .agg #[.bool (y0.g 0), .int .u8 (y0.c 1), .int .u8 (y0.c 2), y0.s 3, y0.s 4, y0.s 5] ∧ Cx.okW w [.bool, .int .u8, .int .u8, .tab [some .u8, some .u8], .tab [some .u8, some .u8, some .u8, some .u8], .tab [some .u8]] y0 :=
  Cx.open_agg (ks := [.bool, .int .u8, .int .u8, .tab [some .u8, some .u8], .tab [some .u8, some .u8, some .u8, some .u8], .tab [some .u8]]) (dp := 12) (by kernel_rfl) (.inl ⟨_, Try.underlying79⟩) hval h
theorem dfewer_walk (y0 : Cx.RowW) (v1 : Value) (y1 : List Cx.RowV) (w : World) (g0 : Cx.okW w [.bool, .int .u8, .int .u8, .tab [some .u8, some .u8], .tab [some .u8, some .u8, some .u8, some .u8], .tab [some .u8]] y0) (g1 : Cx.SlT [some .u8, some .u8] w v1 y1) :
    Calls Try.prog 9 #[.agg #[.bool (y0.g 0), .int .u8 (y0.c 1), .int .u8 (y0.c 2), y0.s 3, y0.s 4, y0.s 5], v1] w fun e w' => e = .returned (.bool true) ∧ Below w.heap.size w w' := by
  have hLw : Cx.Laid w := fun _ h => by cases h
  obtain ⟨n, v, hv, hp⟩ := Cx.dlf_run (y0.g 0) (y0.c 1) (y0.c 2) (Cx.tabV (y0.t 3)).n ((Cx.tabV (y0.t 3)).c 0) ((Cx.tabV (y0.t 3)).c 1) (Cx.tabV (y0.t 4)).n ((Cx.tabV (y0.t 4)).c 0) ((Cx.tabV (y0.t 4)).c 1) ((Cx.tabV (y0.t 4)).c 2) ((Cx.tabV (y0.t 4)).c 3) (Cx.tabV (y0.t 5)).n ((Cx.tabV (y0.t 5)).c 0) (Cx.tabV y1).n ((Cx.tabV y1).c 0) ((Cx.tabV y1).c 1) (rng_u8 (g0.1 1 .u8 rfl)) (rng_u8 (g0.1 2 .u8 rfl)) (Cx.SlT.len (g0.2 3 _ rfl)) (fun i => rng_u8 (Cx.SlT.wf (g0.2 3 _ rfl) 0 .u8 rfl rfl i)) (fun i => rng_u8 (Cx.SlT.wf (g0.2 3 _ rfl) 1 .u8 rfl rfl i)) (Cx.SlT.len (g0.2 4 _ rfl)) (fun i => rng_u8 (Cx.SlT.wf (g0.2 4 _ rfl) 0 .u8 rfl rfl i)) (fun i => rng_u8 (Cx.SlT.wf (g0.2 4 _ rfl) 1 .u8 rfl rfl i)) (fun i => rng_u8 (Cx.SlT.wf (g0.2 4 _ rfl) 2 .u8 rfl rfl i)) (fun i => rng_u8 (Cx.SlT.wf (g0.2 4 _ rfl) 3 .u8 rfl rfl i)) (Cx.SlT.len (g0.2 5 _ rfl)) (fun i => rng_u8 (Cx.SlT.wf (g0.2 5 _ rfl) 0 .u8 rfl rfl i)) (Cx.SlT.len g1) (fun i => rng_u8 (Cx.SlT.wf g1 0 .u8 rfl rfl i)) (fun i => rng_u8 (Cx.SlT.wf g1 1 .u8 rfl rfl i))
  have hS : ∀ s ∈ ([⟨(y0.s 3), [some .u8, some .u8], (y0.t 3)⟩, ⟨(y0.s 4), [some .u8, some .u8, some .u8, some .u8], (y0.t 4)⟩, ⟨(y0.s 5), [some .u8], (y0.t 5)⟩, ⟨v1, [some .u8, some .u8], y1⟩] : List Cx.SlV), Cx.SlT s.ks w s.v s.xs := fun s hs => by
    simp only [List.mem_cons, List.not_mem_nil, or_false] at hs
    rcases hs with rfl | rfl | rfl | rfl
    · exact (g0.2 3 _ rfl)
    · exact (g0.2 4 _ rfl)
    · exact (g0.2 5 _ rfl)
    · exact g1
  exact Cx.Ctr.law (ρ := ⟨fun _ => 0, fun _ => false⟩) (σ := Cx.sigV w ([⟨(y0.s 3), [some .u8, some .u8], (y0.t 3)⟩, ⟨(y0.s 4), [some .u8, some .u8, some .u8, some .u8], (y0.t 4)⟩, ⟨(y0.s 5), [some .u8], (y0.t 5)⟩, ⟨v1, [some .u8, some .u8], y1⟩] : List Cx.SlV)) (e := .x v) (Cx.dlfctr (y0.g 0) (y0.c 1) (y0.c 2) (Cx.tabV (y0.t 3)).n ((Cx.tabV (y0.t 3)).c 0) ((Cx.tabV (y0.t 3)).c 1) (Cx.tabV (y0.t 4)).n ((Cx.tabV (y0.t 4)).c 0) ((Cx.tabV (y0.t 4)).c 1) ((Cx.tabV (y0.t 4)).c 2) ((Cx.tabV (y0.t 4)).c 3) (Cx.tabV (y0.t 5)).n ((Cx.tabV (y0.t 5)).c 0) (Cx.tabV y1).n ((Cx.tabV y1).c 0) ((Cx.tabV y1).c 1) Cx.dlfmem hv) hp (.cons (.agg (.cons (.bool (.x (y0.g 0))) (.cons (.int .u8 (.x (y0.c 1))) (.cons (.int .u8 (.x (y0.c 2))) (.cons (Cx.SlT.rel (S := ([⟨(y0.s 3), [some .u8, some .u8], (y0.t 3)⟩, ⟨(y0.s 4), [some .u8, some .u8, some .u8, some .u8], (y0.t 4)⟩, ⟨(y0.s 5), [some .u8], (y0.t 5)⟩, ⟨v1, [some .u8, some .u8], y1⟩] : List Cx.SlV)) 0 rfl (g0.2 3 _ rfl)) (.cons (Cx.SlT.rel (S := ([⟨(y0.s 3), [some .u8, some .u8], (y0.t 3)⟩, ⟨(y0.s 4), [some .u8, some .u8, some .u8, some .u8], (y0.t 4)⟩, ⟨(y0.s 5), [some .u8], (y0.t 5)⟩, ⟨v1, [some .u8, some .u8], y1⟩] : List Cx.SlV)) 1 rfl (g0.2 4 _ rfl)) (.cons (Cx.SlT.rel (S := ([⟨(y0.s 3), [some .u8, some .u8], (y0.t 3)⟩, ⟨(y0.s 4), [some .u8, some .u8, some .u8, some .u8], (y0.t 4)⟩, ⟨(y0.s 5), [some .u8], (y0.t 5)⟩, ⟨v1, [some .u8, some .u8], y1⟩] : List Cx.SlV)) 2 rfl (g0.2 5 _ rfl)) .nil))))))) (.cons (Cx.SlT.rel (S := ([⟨(y0.s 3), [some .u8, some .u8], (y0.t 3)⟩, ⟨(y0.s 4), [some .u8, some .u8, some .u8, some .u8], (y0.t 4)⟩, ⟨(y0.s 5), [some .u8], (y0.t 5)⟩, ⟨v1, [some .u8, some .u8], y1⟩] : List Cx.SlV)) 3 rfl g1) .nil)) (Cx.argsV ([⟨(y0.s 3), [some .u8, some .u8], (y0.t 3)⟩, ⟨(y0.s 4), [some .u8, some .u8, some .u8, some .u8], (y0.t 4)⟩, ⟨(y0.s 5), [some .u8], (y0.t 5)⟩, ⟨v1, [some .u8, some .u8], y1⟩] : List Cx.SlV) _ hS hLw) (fun b hb => Cx.sigV_none hb)
theorem dfewer_own : ownKnob Try.prog.godebug = none := by kernel_rfl
theorem dfewer_laidOut : laidOutB Try.prog = true := by kernel_rfl
set_option maxRecDepth 100000 in
theorem dfewer_lifted (os : Os) (started : os.Started) (H : Type) (enc : TypeId × Value → H) :
    ReturnsInHanded {} Try.checked os 9 .any (Rows.dieFewerSpec.pre6 enc Try.prog Try.f9 Rows.dieFewerRow.domain false) (Rows.dieFewerSpec.post enc Try.prog Try.f9 false true false false) := by
  refine returnsInHanded_of_change (C := Try.checked) dfewer_own started (by kernel_rfl) Try.func9
    (ChangeSpec.witness6 (enc := enc) (C := Try.checked) false ⟨#[], #[.agg #[.bool false, .int .u8 0, .int .u8 0, .slice none 0 0, .slice none 0 0, .slice none 0 0], .slice none 0 0], []⟩ 8 (by kernel_rfl) (by kernel_rfl) (by kernel_rfl) (by kernel_rfl)) ?_
  intro W base args ds gs before hval0 hW hcnd _
  have hval : ∀ (j : Nat) t v, Try.f9.params[j]? = some t → args[j]? = some v → Value.okWide Try.prog W .any base t v := hval0
  have hW' := hW
  obtain ⟨p, q, hA0, hV, rfl, hfz, hnd⟩ := hW
  have hA : DataW.TrodAll enc Try.prog W 0 (fun _ => true) true Try.f9.params.toList args.toList ds p := hA0
  rw [Try.params9] at hA hval
  obtain ⟨v0, vs0, d0, ds0, p0, q0, hargs, rfl, rfl, h0, r0⟩ := trodAll_cons hA
  obtain ⟨v1, vs1, d1, ds1, p1, q1, rfl, rfl, rfl, h1, r1⟩ := trodAll_cons r0
  obtain ⟨rfl, rfl, rfl⟩ := trodAll_nil r1
  obtain rfl : args = #[v0, v1] := by cases args; simp_all
  obtain ⟨rfl, rfl⟩ := trodVars_none hV
  have k0 := h0
  have lt0 : ∀ x ∈ p0, x.block < W.heap.size := by obtain ⟨m, hm⟩ := k0; exact DataW.trod_lt m _ _ _ hm
  have k1 := h1
  have lt1 : ∀ x ∈ p1, x.block < W.heap.size := by obtain ⟨m, hm⟩ := k1; exact DataW.trod_lt m _ _ _ hm
  obtain ⟨y0, rfl, g0⟩ := dfewer_open0 (hval 0 79 v0 rfl rfl) h0
  obtain ⟨y1, g1⟩ := Cx.open_slT (l := [some .u8, some .u8]) (dp := 12) (by kernel_rfl) Try.underlying75 (hval 1 75 v1 rfl rfl) h1
  clear hA0 hval0
  refine (dfewer_walk y0 v1 y1 W g0 g1).mono fun e W' ⟨he, bel⟩ => ?_
  subst he
  exact ⟨_, rfl, _, _, _, [], _, [], hW', trodAll_mk1 (shut_bool Try.underlying4 _), (trodAll_cons_mk (Below.trod dfewer_laidOut (by kernel_rfl) (of_decide_eq_true (by kernel_rfl)) k0 bel lt0) (trodAll_cons_mk (Below.trod dfewer_laidOut (by kernel_rfl) (of_decide_eq_true (by kernel_rfl)) k1 bel lt1) trodAll_mk0)), rfl, bel.frame _, fun h => by cases h⟩
theorem dfewer_over : Rows.dieFewerRow.holds Try.pinned (OpenSpec.ofChange Rows.dieFewerSpec) :=
  OpenClaim.holds_of_wide 9 Try.f9 rfl rfl rfl rfl rfl rfl rfl ⟨rfl, rfl, rfl, rfl, rfl⟩ rfl rfl rfl rfl rfl (by kernel_rfl) Try.func9 (by kernel_rfl)
    (of_decide_eq_true (by kernel_rfl)) (by unfold Func.isWrapper; rw [if_neg (of_decide_eq_false (by kernel_rfl))]; exact ⟨rfl, rfl⟩)
    (fun os started H enc _ => dfewer_lifted os started H enc)
theorem dfewer_proved : Rows.DieFewerSaid := dfewer_over
#print axioms dfewer_proved
end Go.Proofs.Ythagjhadjpangaa
