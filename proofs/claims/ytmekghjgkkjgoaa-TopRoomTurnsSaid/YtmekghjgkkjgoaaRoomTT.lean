/- TopRoomTurns: the tests of the law and their arithmetic. Made by tools/cxroot.py. -/
import Derived.Test.YtmekghjgkkjgoaaCxS
set_option linter.unusedSimpArgs false
set_option linter.unusedVariables false
set_option maxRecDepth 100000
set_option maxHeartbeats 4000000
namespace Go.Proofs.Ytmekghjgkkjgoaa.Cx
open Go Go.RowKit

def rt0 : IE := .bin .conv .i64 (.v 0) (.c 0)
def rt1 : IE := .bin .mul .i64 (.c 4) rt0
def rt2 : IE := .bin .add .i64 (.c 9000) rt1
def rt3 : IE := .bin .conv .i64 (.v 1) (.c 0)
def rt4 : IE := .bin .add .i64 (.c 400) rt3
def rt5 : IE := .bin .conv .i64 (.v 2) (.c 0)
def rt6 : IE := .bin .add .i64 (.c 400) rt5
def rt7 : IE := .bin .conv .i64 (.v 3) (.c 0)
def rt8 : IE := .bin .mul .i64 (.c 5) rt7
def rt9 : IE := .bin .add .i64 (.c 1) rt8
def rt10 : IE := .bin .add .i64 rt9 rt8
def rt11 : IE := .bin .mx .i64 rt9 rt8
def rt12 : IE := .bin .add .i64 rt4 rt6
def rt13 : IE := .bin .mul .i64 rt11 rt12
def rt14 : IE := .bin .mul .i64 (.c 500) rt2
def rt15 : IE := .bin .conv .i64 (.v 5) (.c 0)
def rt16 : IE := .bin .add .i64 (.c 400) rt15
def rt17 : IE := .bin .conv .i64 (.v 6) (.c 0)
def rt18 : IE := .bin .add .i64 (.c 400) rt17
def rt19 : IE := .bin .conv .i64 (.v 7) (.c 0)
def rt20 : IE := .bin .mul .i64 (.c 5) rt19
def rt21 : IE := .bin .add .i64 (.c 1) rt20
def rt22 : IE := .bin .add .i64 rt21 rt20
def rt23 : IE := .bin .mx .i64 rt21 rt20
def rt24 : IE := .bin .add .i64 rt16 rt18
def rt25 : IE := .bin .mul .i64 rt23 rt24
def rt26 : IE := .bin .conv .i64 (.v 8) (.c 0)
def rt27 : IE := .bin .mul .i64 (.c 8) rt26
def rt28 : IE := .bin .sub .i64 rt27 (.c 1200)
def rt29 : IE := .bin .conv .i64 (.v 9) (.c 0)
def rt30 : IE := .bin .mul .i64 (.c 8) rt29
def rt31 : IE := .bin .add .i64 rt28 rt30
def rt32 : IE := .bin .sub .i64 rt16 rt4
def rt33 : IE := .bin .mul .i64 rt28 rt32
def rt34 : IE := .bin .mul .i64 rt31 rt32
def rt35 : IE := .bin .mx .i64 rt33 rt34
def rt36 : IE := .bin .sub .i64 rt18 rt6
def rt37 : IE := .bin .mul .i64 rt28 rt36
def rt38 : IE := .bin .mul .i64 rt31 rt36
def rt39 : IE := .bin .mx .i64 rt37 rt38
def rt40 : IE := .bin .add .i64 rt35 rt39
def rt41 : IE := .bin .conv .i64 (.v 10) (.c 0)
def rt42 : IE := .bin .conv .i64 (.v 11) (.c 0)
def rt43 : IE := .bin .mul .i64 rt41 rt42
def rt44 : IE := .bin .quo .i64 rt43 (.c 9)
def rt45 : IE := .bin .sub .i64 (.c 0) rt44
def rt46 : IE := .bin .sub .i64 rt2 rt2
def rt47 : IE := .bin .mul .i64 (.c 500) rt46
def rt48 : IE := .bin .mul .i64 (.c 0) rt24
def rt49 : IE := .bin .add .i64 rt47 rt48
def rt50 : IE := .bin .mul .i64 rt45 rt12
def rt51 : IE := .bin .sub .i64 rt49 rt50
def rt52 : IE := .bin .sub .i64 rt51 rt35
def rt53 : IE := .bin .sub .i64 rt52 rt39
def rt54 : IE := .bin .mx .i64 rt46 rt46
def rt55 : IE := .bin .mul .i64 (.c 1000) rt54
def rt56 : IE := .bin .mul .i64 (.c 0) rt12
def rt57 : IE := .bin .sub .i64 rt49 rt56
def rt58 : IE := .bin .sub .i64 rt57 rt35
def rt59 : IE := .bin .sub .i64 rt58 rt39
def rt60 : IE := .bin .quo .i64 rt40 rt12
def rt61 : IE := .bin .rem .i64 rt40 rt12
def rt62 : IE := .bin .mx .i64 (.c 0) rt61
def rt63 : IE := .bin .mn .i64 (.c 1) rt62
def rt64 : IE := .bin .add .i64 rt60 rt63
def rt65 : IE := .bin .sub .i64 (.c 0) rt64
def rt66 : IE := .bin .mul .i64 rt65 rt12
def rt67 : IE := .bin .sub .i64 rt49 rt66
def rt68 : IE := .bin .sub .i64 rt67 rt35
def rt69 : IE := .bin .sub .i64 rt68 rt39
def rtTree : DT :=
(.ask (.cmp .leq (.c 100) rt2)
 (.ask (.cmp .leq rt2 (.c 200000))
 (.ask (.cmp .leq (.c 0) rt4)
 (.ask (.cmp .leq rt4 (.c 3000))
 (.ask (.cmp .leq (.c 0) rt6)
 (.ask (.cmp .leq rt6 (.c 3000))
 (.ask (.cmp .leq (.c 0) rt9)
 (.ask (.cmp .leq rt9 (.c 200000))
 (.ask (.cmp .leq (.c 0) rt8)
 (.ask (.cmp .leq rt8 (.c 200000))
 (.ask (.cmp .leq (.c 1) rt10)
 (.ask (.cmp .leq rt13 rt14)
 (.ask (.cmp .leq (.c 0) rt16)
 (.ask (.cmp .leq rt16 (.c 3000))
 (.ask (.cmp .leq (.c 0) rt18)
 (.ask (.cmp .leq rt18 (.c 3000))
 (.ask (.cmp .leq (.c 0) rt21)
 (.ask (.cmp .leq rt21 (.c 200000))
 (.ask (.cmp .leq (.c 0) rt20)
 (.ask (.cmp .leq rt20 (.c 200000))
 (.ask (.cmp .leq (.c 1) rt22)
 (.ask (.cmp .leq rt25 rt14)
 (.ask (.cmp .leq (.c (-200000)) rt28)
 (.ask (.cmp .leq rt28 rt31)
 (.ask (.cmp .leq rt31 (.c 200000))
 (.ask (.cmp .leq rt40 (.c 0))
 (.ask (.cmp .leq (.c (-10000)) rt45)
 (.ask (.cmp .leq rt45 (.c 10000))
 (.ask (.cmp .leq (.c 0) rt53)
 (.ask (.cmp .eql rt55 (.c 0))
 (.ask (.cmp .leq (.c 0) rt44)
 (.ask (.cmp .leq (.c 0) rt59)
 (.leaf (.c true))
 .dead)
 .dead)
 .dead)
 .dead)
 .dead)
 .dead)
 (.ask (.cmp .eql rt12 (.c 0))
 .dead
 (.ask (.cmp .leq (.c (-10000)) rt45)
 (.ask (.cmp .leq rt45 (.c 10000))
 (.ask (.cmp .leq (.c 0) rt53)
 (.ask (.cmp .eql rt55 (.c 0))
 (.ask (.cmp .leq rt64 rt44)
 (.ask (.cmp .leq (.c (-10000)) rt65)
 (.ask (.cmp .leq rt65 (.c 10000))
 (.ask (.cmp .leq (.c 0) rt69)
 (.leaf (.c true))
 .dead)
 .dead)
 .dead)
 .dead)
 .dead)
 (.ask (.cmp .leq rt64 rt44)
 .dead
 (.ask (.cmp .leq (.c (-10000)) rt65)
 (.ask (.cmp .leq rt65 (.c 10000))
 (.ask (.cmp .leq (.c 0) rt69)
 (.ask (.cmp .eql rt55 (.c 0))
 (.leaf (.c true))
 .dead)
 .dead)
 .dead)
 .dead)))
 .dead)
 .dead)))
 .dead)
 .dead)
 .dead)
 .dead)
 .dead)
 .dead)
 .dead)
 .dead)
 .dead)
 .dead)
 .dead)
 .dead)
 .dead)
 .dead)
 .dead)
 .dead)
 .dead)
 .dead)
 .dead)
 .dead)
 .dead)
 .dead)
 .dead)
 .dead)
 .dead)
end Go.Proofs.Ytmekghjgkkjgoaa.Cx
