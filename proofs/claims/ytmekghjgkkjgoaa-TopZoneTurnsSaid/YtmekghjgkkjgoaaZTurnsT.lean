/- TopZoneTurns: the tests of the law and their arithmetic. Made by tools/cxroot.py. -/
import Derived.Test.YtmekghjgkkjgoaaCxS
set_option linter.unusedSimpArgs false
set_option linter.unusedVariables false
set_option maxRecDepth 100000
set_option maxHeartbeats 4000000
namespace Go.Proofs.Ytmekghjgkkjgoaa.Cx
open Go Go.RowKit

def zu0 : IE := .bin .conv .i64 (.v 2) (.c 0)
def zu1 : IE := .bin .mul .i64 (.c 2) zu0
def zu2 : IE := .bin .conv .i64 (.v 3) (.c 0)
def zu3 : IE := .bin .mul .i64 (.c 2) zu2
def zu4 : IE := .bin .conv .i64 (.v 0) (.c 0)
def zu5 : IE := .bin .mul .i64 (.c 2) zu4
def zu6 : IE := .bin .sub .i64 zu5 (.c 256)
def zu7 : IE := .bin .conv .i64 (.v 1) (.c 0)
def zu8 : IE := .bin .mul .i64 (.c 2) zu7
def zu9 : IE := .bin .sub .i64 zu8 (.c 256)
def zu10 : IE := .bin .conv .i64 (.v 4) (.c 0)
def zu11 : IE := .bin .mul .i64 (.c 4) zu10
def zu12 : IE := .bin .add .i64 (.c 9000) zu11
def zu13 : IE := .bin .conv .i64 (.v 5) (.c 0)
def zu14 : IE := .bin .add .i64 (.c 400) zu13
def zu15 : IE := .bin .add .i64 (.c 400) zu10
def zu16 : IE := .bin .add .i64 zu14 zu15
def zu17 : IE := .bin .mul .i64 (.c 46) zu16
def zu18 : IE := .bin .mul .i64 (.c 500) zu12
def zu19 : IE := .bin .sub .i64 (.c 50000) zu6
def zu20 : IE := .bin .sub .i64 zu19 zu1
def zu21 : IE := .bin .sub .i64 zu20 (.c 50000)
def zu22 : IE := .bin .quo .i64 zu21 (.c 2)
def zu23 : IE := .bin .sub .i64 zu19 (.c 50000)
def zu24 : IE := .bin .quo .i64 zu23 (.c 2)
def zu25 : IE := .bin .add .i64 (.c 50000) zu9
def zu26 : IE := .bin .sub .i64 zu25 (.c 50000)
def zu27 : IE := .bin .quo .i64 zu26 (.c 2)
def zu28 : IE := .bin .add .i64 zu25 zu3
def zu29 : IE := .bin .sub .i64 zu28 (.c 50000)
def zu30 : IE := .bin .quo .i64 zu29 (.c 2)
def zu31 : IE := .bin .conv .i64 (.v 6) (.c 0)
def zu32 : IE := .bin .mul .i64 (.c 8) zu31
def zu33 : IE := .bin .sub .i64 zu32 (.c 1200)
def zu34 : IE := .bin .conv .i64 (.v 7) (.c 0)
def zu35 : IE := .bin .mul .i64 (.c 8) zu34
def zu36 : IE := .bin .add .i64 zu33 zu35
def zu37 : IE := .bin .sub .i64 zu12 zu12
def zu38 : IE := .bin .mul .i64 (.c 500) zu37
def zu39 : IE := .bin .mul .i64 zu27 zu16
def zu40 : IE := .bin .add .i64 zu38 zu39
def zu41 : IE := .bin .mul .i64 zu24 zu16
def zu42 : IE := .bin .sub .i64 zu40 zu41
def zu43 : IE := .bin .sub .i64 zu14 zu14
def zu44 : IE := .bin .mul .i64 zu33 zu43
def zu45 : IE := .bin .mul .i64 zu36 zu43
def zu46 : IE := .bin .mx .i64 zu44 zu45
def zu47 : IE := .bin .sub .i64 zu42 zu46
def zu48 : IE := .bin .sub .i64 zu15 zu15
def zu49 : IE := .bin .mul .i64 zu33 zu48
def zu50 : IE := .bin .mul .i64 zu36 zu48
def zu51 : IE := .bin .mx .i64 zu49 zu50
def zu52 : IE := .bin .sub .i64 zu47 zu51
def zu53 : IE := .bin .mx .i64 zu37 zu37
def zu54 : IE := .bin .mul .i64 (.c 1000) zu53
def zu55 : IE := .bin .mul .i64 zu30 zu16
def zu56 : IE := .bin .add .i64 zu38 zu55
def zu57 : IE := .bin .mul .i64 zu22 zu16
def zu58 : IE := .bin .sub .i64 zu56 zu57
def zu59 : IE := .bin .sub .i64 zu58 zu46
def zu60 : IE := .bin .sub .i64 zu59 zu51
def zu61 : IE := .bin .rem .i64 zu10 (.c 100)
def zu62 : IE := .bin .add .i64 (.c 1) zu61
def zu63 : IE := .bin .sub .i64 zu25 zu19
def zu64 : IE := .bin .sub .i64 zu28 zu20
def zuC0 (t : DT) : DT := (.ask (.cmp .leq (.c 1) zu62) (.ask (.cmp .leq zu62 (.c 100)) (.ask (.cmp .leq zu62 (.c 0)) .dead t) .dead) .dead)
def zuTree : DT :=
(.ask (.cmp .leq (.c 0) zu1)
 (.ask (.cmp .leq zu1 (.c 100000))
 (.ask (.cmp .leq (.c 0) zu3)
 (.ask (.cmp .leq zu3 (.c 100000))
 (.ask (.cmp .leq (.c (-100000)) zu6)
 (.ask (.cmp .leq zu6 (.c 100000))
 (.ask (.cmp .leq (.c (-100000)) zu9)
 (.ask (.cmp .leq zu9 (.c 100000))
 (.ask (.cmp .leq (.c 100) zu12)
 (.ask (.cmp .leq zu12 (.c 200000))
 (.ask (.cmp .leq (.c 0) zu14)
 (.ask (.cmp .leq zu14 (.c 3000))
 (.ask (.cmp .leq (.c 0) zu15)
 (.ask (.cmp .leq zu15 (.c 3000))
 (.ask (.cmp .leq zu17 zu18)
 (.ask (.cmp .leq (.c (-10000)) zu22)
 (.ask (.cmp .leq zu22 zu24)
 (.ask (.cmp .leq zu24 (.c 10000))
 (.ask (.cmp .leq (.c (-10000)) zu27)
 (.ask (.cmp .leq zu27 zu30)
 (.ask (.cmp .leq zu30 (.c 10000))
 (.ask (.cmp .leq (.c (-200000)) zu33)
 (.ask (.cmp .leq zu33 zu36)
 (.ask (.cmp .leq zu36 (.c 200000))
 (.ask (.cmp .leq (.c 0) zu52)
 (.ask (.cmp .eql zu54 (.c 0))
 (.ask (.cmp .leq (.c 0) zu60)
 (.ask (.cmp .leq (.c 1) zu62)
 (.ask (.cmp .leq zu62 (.c 100))
 (.ask (.cmp .leq (.c 0) zu63)
 (.ask (.cmp .leq (.c 0) zu64)
 (.leaf (.c true))
 .dead)
 .dead)
 .dead)
 .dead)
 .dead)
 .dead)
 (.ask (.cmp .leq (.c 0) zu60)
 (.ask (.cmp .eql zu54 (.c 0))
 (zuC0
 (.ask (.cmp .leq (.c 0) zu63)
 .dead
 (.ask (.cmp .leq (.c 0) zu64)
 (.leaf (.c true))
 .dead)))
 .dead)
 (zuC0
 (.ask (.cmp .leq (.c 0) zu63)
 .dead
 (.ask (.cmp .leq (.c 0) zu64)
 .dead
 (.leaf (.c true)))))))
 .dead)
 .dead)
 .dead)
 .dead)
 .dead)
 .dead)
 .dead)
 .dead)
 .dead)
 .dead)
 .dead)
 .dead)
 .dead)
 .dead)
 .dead)
 .dead)
 .dead)
 .dead)
 .dead)
 .dead)
 .dead)
 .dead)
 .dead)
 .dead)
end Go.Proofs.Ytmekghjgkkjgoaa.Cx
