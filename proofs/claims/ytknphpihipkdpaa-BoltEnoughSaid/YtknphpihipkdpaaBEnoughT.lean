/- BoltEnough: the tests of the law and their arithmetic. Made by tools/cxroot.py. -/
import Derived.Test.YtknphpihipkdpaaCxS
set_option linter.unusedSimpArgs false
set_option linter.unusedVariables false
set_option maxRecDepth 100000
set_option maxHeartbeats 4000000
namespace Go.Proofs.Ytknphpihipkdpaa.Cx
open Go Go.RowKit

def be0 : IE := .bin .conv .i64 (.v 0) (.c 0)
def be1 : IE := .bin .mul .i64 (.c 10) be0
def be2 : IE := .bin .add .i64 (.c 1) be1
def be3 : IE := .bin .conv .i64 (.v 1) (.c 0)
def be4 : IE := .bin .mul .i64 (.c 20) be3
def be5 : IE := .bin .conv .i64 (.v 2) (.c 0)
def be6 : IE := .bin .mul .i64 (.c 30) be5
def be7 : IE := .bin .conv .i64 (.v 3) (.c 0)
def be8 : IE := .bin .conv .i64 (.v 4) (.c 0)
def be9 : IE := .bin .rem .i64 be8 (.c 60)
def be10 : IE := .bin .add .i64 be7 be9
def be11 : IE := .bin .conv .i64 (.v 5) (.c 0)
def be12 : IE := .bin .conv .i64 (.v 6) (.c 0)
def be13 : IE := .bin .rem .i64 be12 (.c 60)
def be14 : IE := .bin .add .i64 be11 be13
def be15 : IE := .bin .conv .i64 (.v 7) (.c 0)
def be16 : IE := .bin .mul .i64 (.c 100) be15
def be17 : IE := .bin .add .i64 (.c 1) be16
def be18 : IE := .bin .conv .i64 (.v 8) (.c 0)
def be19 : IE := .bin .mul .i64 (.c 10) be18
def be20 : IE := .bin .add .i64 be17 be19
def be21 : IE := .bin .conv .i64 (.v 9) (.c 0)
def be22 : IE := .bin .add .i64 (.c 1) be21
def be23 : IE := .bin .conv .i64 (.v 10) (.c 0)
def be24 : IE := .bin .rem .i64 be23 (.c 20)
def be25 : IE := .bin .add .i64 be22 be24
def be26 : IE := .bin .conv .i64 (.v 11) (.c 0)
def be27 : IE := .bin .mul .i64 (.c 100) be26
def be28 : IE := .bin .add .i64 (.c 1) be27
def be29 : IE := .bin .conv .i64 (.v 12) (.c 0)
def be30 : IE := .bin .mul .i64 (.c 10) be29
def be31 : IE := .bin .add .i64 be28 be30
def be32 : IE := .bin .conv .i64 (.v 26) (.c 0)
def be33 : IE := .bin .rem .i64 be32 (.c 100000001)
def be34 : IE := .bin .conv .i64 (.v 27) (.c 0)
def be35 : IE := .bin .mul .i64 (.c 3) be34
def be36 : IE := .bin .conv .i64 (.v 28) (.c 0)
def be37 : IE := .bin .mul .i64 (.c 3) be36
def be38 : IE := .bin .mul .i64 (.c 1000) be2
def be39 : IE := .bin .mul .i64 be4 be35
def be40 : IE := .bin .mul .i64 be6 be37
def be41 : IE := .bin .add .i64 be39 be40
def be42 : IE := .bin .add .i64 be38 be41
def be43 : IE := .bin .mul .i64 be33 be42
def be44 : IE := .bin .quo .i64 be43 (.c 1000)
def be45 : IE := .bin .rem .i64 be43 (.c 1000)
def be46 : IE := .bin .mx .i64 (.c 0) be45
def be47 : IE := .bin .mn .i64 (.c 1) be46
def be48 : IE := .bin .add .i64 be44 be47
def be49 : IE := .bin .add .i64 be41 be38
def be50 : IE := .bin .mul .i64 (.c 1000) be48
def be51 : IE := .bin .quo .i64 be50 be49
def be52 : IE := .bin .add .i64 (.c 0) be51
def be53 : IE := .bin .sub .i64 be48 (.c 1)
def be54 : IE := .bin .mul .i64 (.c 1000) be53
def be55 : IE := .bin .quo .i64 be54 be49
def be56 : IE := .bin .add .i64 (.c 0) be55
def beTree : DT :=
(.ask (.cmp .leq be2 (.c 0))
 .dead
 (.ask (.cmp .leq (.c 0) be2)
 (.ask (.cmp .leq be2 (.c 100000))
 (.ask (.cmp .leq (.c 0) be4)
 (.ask (.cmp .leq be4 (.c 100000))
 (.ask (.cmp .leq (.c 0) be6)
 (.ask (.cmp .leq be6 (.c 100000))
 (.ask (.cmp .leq (.c 0) be7)
 (.ask (.cmp .leq be7 be10)
 (.ask (.cmp .leq be10 (.c 1000))
 (.ask (.cmp .leq (.c 0) be11)
 (.ask (.cmp .leq be11 be14)
 (.ask (.cmp .leq be14 (.c 1000))
 (.ask (.cmp .leq (.c 1) be17)
 (.ask (.cmp .leq be17 be20)
 (.ask (.cmp .leq be20 (.c 100000000))
 (.ask (.cmp .leq (.c 1) be22)
 (.ask (.cmp .leq be22 be25)
 (.ask (.cmp .leq be25 (.c 100000))
 (.ask (.cmp .leq (.c 1) be28)
 (.ask (.cmp .leq be28 be31)
 (.ask (.cmp .leq be31 (.c 100000000))
 (.ask (.cmp .leq (.c 0) be33)
 (.ask (.cmp .leq be33 (.c 100000000))
 (.ask (.cmp .leq (.c 0) be35)
 (.ask (.cmp .leq be35 (.c 1000))
 (.ask (.cmp .leq (.c 0) be37)
 (.ask (.cmp .leq be37 (.c 1000))
 (.ask (.cmp .leq (.c 0) be48)
 (.ask (.cmp .leq be48 (.c 10000000000000))
 (.ask (.cmp .eql be49 (.c 0))
 .dead
 (.ask (.cmp .leq be33 be52)
 (.ask (.cmp .eql be48 (.c 0))
 (.ask (.cmp .eql be33 (.c 0))
 (.leaf (.c true))
 .dead)
 (.ask (.cmp .leq (.c 0) be53)
 (.ask (.cmp .leq be53 (.c 10000000000000))
 (.ask (.cmp .leq be33 be56)
 .dead
 (.leaf (.c true)))
 .dead)
 .dead))
 .dead))
 .dead)
 .dead)
 .dead)
 .dead)
 .dead)
 .dead)
 .dead)
 .dead)
 .dead)
 .dead)
 .dead)
 .dead)
 .dead)
 .dead)
 .dead)
 .dead)
 .dead)
 .dead)
 .dead)
 .dead)
 .dead)
 .dead)
 .dead)
 .dead)
 .dead)
 .dead)
 .dead)
 .dead)
 .dead))
end Go.Proofs.Ytknphpihipkdpaa.Cx
