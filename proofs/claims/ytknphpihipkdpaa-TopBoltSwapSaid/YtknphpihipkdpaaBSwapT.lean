/- TopBoltSwap: the tests of the law and their arithmetic. Made by tools/cxroot.py. -/
import Derived.Test.YtknphpihipkdpaaCxS
set_option linter.unusedSimpArgs false
set_option linter.unusedVariables false
set_option maxRecDepth 100000
set_option maxHeartbeats 4000000
namespace Go.Proofs.Ytknphpihipkdpaa.Cx
open Go Go.RowKit

def bs0 : IE := .bin .conv .i64 (.v 9) (.c 0)
def bs1 : IE := .bin .rem .i64 bs0 (.c 60)
def bs2 : IE := .bin .add .i64 (.c 10000) bs1
def bs3 : IE := .bin .mul .i64 (.c 500) bs2
def bs4 : IE := .bin .conv .i64 (.v 10) (.c 0)
def bs5 : IE := .bin .sub .i64 (.c 0) bs4
def bs6 : IE := .bin .conv .i64 (.v 11) (.c 0)
def bs7 : IE := .bin .rem .i64 bs6 (.c 20)
def bs8 : IE := .bin .conv .i64 (.v 12) (.c 0)
def bs9 : IE := .bin .sub .i64 (.c 0) bs8
def bs10 : IE := .bin .rem .i64 bs9 (.c 100)
def bs11 : IE := .bin .quo .i64 bs8 (.c 2)
def bs12 : IE := .bin .sub .i64 bs2 (.c 10000)
def bs13 : IE := .bin .mul .i64 (.c 500) bs12
def bs14 : IE := .bin .mul .i64 bs7 (.c 1154)
def bs15 : IE := .bin .add .i64 bs13 bs14
def bs16 : IE := .bin .mul .i64 bs5 (.c 1154)
def bs17 : IE := .bin .sub .i64 bs15 bs16
def bs18 : IE := .bin .mul .i64 bs10 (.c 0)
def bs19 : IE := .bin .mul .i64 bs11 (.c 0)
def bs20 : IE := .bin .mx .i64 bs18 bs19
def bs21 : IE := .bin .sub .i64 bs17 bs20
def bs22 : IE := .bin .sub .i64 bs21 bs20
def bs23 : IE := .bin .sub .i64 (.c 10000) bs2
def bs24 : IE := .bin .mx .i64 bs12 bs23
def bs25 : IE := .bin .mul .i64 (.c 1000) bs24
def bs26 : IE := .bin .add .i64 bs5 (.c 1)
def bs27 : IE := .bin .mul .i64 bs26 (.c 1154)
def bs28 : IE := .bin .sub .i64 bs15 bs27
def bs29 : IE := .bin .sub .i64 bs28 bs20
def bs30 : IE := .bin .sub .i64 bs29 bs20
def bs31 : IE := .bin .sub .i64 bs10 (.c 7)
def bs32 : IE := .bin .add .i64 bs11 (.c 7)
def bs33 : IE := .bin .mul .i64 bs31 (.c 0)
def bs34 : IE := .bin .mul .i64 bs32 (.c 0)
def bs35 : IE := .bin .mx .i64 bs33 bs34
def bs36 : IE := .bin .sub .i64 bs17 bs35
def bs37 : IE := .bin .sub .i64 bs36 bs35
def bs38 : IE := .bin .conv .i64 (.v 1) (.c 0)
def bs39 : IE := .bin .mul .i64 (.c 20) bs38
def bs40 : IE := .bin .conv .i64 (.v 2) (.c 0)
def bs41 : IE := .bin .mul .i64 (.c 30) bs40
def bs42 : IE := .bin .conv .i64 (.v 3) (.c 0)
def bs43 : IE := .bin .conv .i64 (.v 4) (.c 0)
def bs44 : IE := .bin .rem .i64 bs43 (.c 60)
def bs45 : IE := .bin .add .i64 bs42 bs44
def bs46 : IE := .bin .conv .i64 (.v 5) (.c 0)
def bs47 : IE := .bin .conv .i64 (.v 6) (.c 0)
def bs48 : IE := .bin .rem .i64 bs47 (.c 60)
def bs49 : IE := .bin .add .i64 bs46 bs48
def bs50 : IE := .bin .conv .i64 (.v 7) (.c 0)
def bs51 : IE := .bin .add .i64 (.c 1) bs50
def bs52 : IE := .bin .conv .i64 (.v 8) (.c 0)
def bs53 : IE := .bin .rem .i64 bs52 (.c 20)
def bs54 : IE := .bin .add .i64 bs51 bs53
def bs55 : IE := .bin .mul .i64 bs39 bs45
def bs56 : IE := .bin .mul .i64 bs41 bs49
def bs57 : IE := .bin .add .i64 bs55 bs56
def bs58 : IE := .bin .add .i64 bs57 (.c 200000)
def bs59 : IE := .bin .mul .i64 bs39 bs42
def bs60 : IE := .bin .mul .i64 bs41 bs46
def bs61 : IE := .bin .add .i64 bs59 bs60
def bs62 : IE := .bin .add .i64 bs61 (.c 200000)
def bs63 : IE := .bin .quo .i64 (.c 0) bs58
def bs64 : IE := .bin .add .i64 (.c 0) bs63
def bs65 : IE := .bin .quo .i64 (.c 0) bs62
def bs66 : IE := .bin .add .i64 (.c 100000) bs65
def bs67 : IE := .bin .add .i64 (.c 0) bs65
def bs68 : IE := .bin .quo .i64 bs22 bs25
def bs69 : IE := .bin .add .i64 (.c 1) bs68
def bs70 : IE := .bin .mn .i64 bs69 (.c 100)
def bs71 : IE := .bin .quo .i64 bs30 bs25
def bs72 : IE := .bin .add .i64 (.c 1) bs71
def bs73 : IE := .bin .mn .i64 bs72 (.c 100)
def bs74 : IE := .bin .quo .i64 bs37 bs25
def bs75 : IE := .bin .add .i64 (.c 1) bs74
def bs76 : IE := .bin .mn .i64 bs75 (.c 100)
def bs77 : IE := .bin .mul .i64 (.c 1000) bs70
def bs78 : IE := .bin .mul .i64 (.c 1000) bs73
def bs79 : IE := .bin .mul .i64 (.c 1000) bs77
def bs80 : IE := .bin .quo .i64 bs79 (.c 1000)
def bs81 : IE := .bin .add .i64 bs80 bs65
def bs82 : IE := .bin .mul .i64 (.c 1000) bs78
def bs83 : IE := .bin .quo .i64 bs82 (.c 1000)
def bs84 : IE := .bin .add .i64 bs83 bs65
def bsC0 (t : DT) : DT := (.ask (.cmp .leq (.c (-200000)) bs31) (.ask (.cmp .leq bs31 bs32) (.ask (.cmp .leq bs32 (.c 200000)) t .dead) .dead) .dead)
def bsC1 (t : DT) : DT := (.ask (.cmp .leq (.c 0) bs39) (.ask (.cmp .leq bs39 (.c 100000)) (.ask (.cmp .leq (.c 0) bs41) (.ask (.cmp .leq bs41 (.c 100000)) (.ask (.cmp .leq (.c 0) bs42) (.ask (.cmp .leq bs42 bs45) (.ask (.cmp .leq bs45 (.c 1000)) (.ask (.cmp .leq (.c 0) bs46) (.ask (.cmp .leq bs46 bs49) t .dead) .dead) .dead) .dead) .dead) .dead) .dead) .dead) .dead)
def bsC2 (t : DT) : DT := (.ask (.cmp .leq (.c 0) bs70) (.ask (.cmp .leq bs70 (.c 100)) t .dead) .dead)
def bsC3 (t : DT) : DT := (.ask (.cmp .leq bs76 bs70) (.ask (.cmp .leq (.c 0) bs39) (.ask (.cmp .leq bs39 (.c 100000)) (.ask (.cmp .leq (.c 0) bs41) (.ask (.cmp .leq bs41 (.c 100000)) (.ask (.cmp .leq (.c 0) bs42) (.ask (.cmp .leq bs42 bs45) (.ask (.cmp .leq bs45 (.c 1000)) (.ask (.cmp .leq (.c 0) bs46) (.ask (.cmp .leq bs46 bs49) t .dead) .dead) .dead) .dead) .dead) .dead) .dead) .dead) .dead) .dead)
def bsC4 (t : DT) : DT := (.ask (.cmp .leq (.c 1) bs51) (.ask (.cmp .leq bs51 bs54) (.ask (.cmp .leq bs54 (.c 100000)) (.ask (.cmp .leq (.c 0) bs77) t .dead) .dead) .dead) .dead)
def bsTree : DT :=
(.ask (.cmp .leq (.c 100) bs2)
 (.ask (.cmp .leq bs2 (.c 200000))
 (.ask (.cmp .leq (.c 3462000) bs3)
 (.ask (.cmp .leq (.c (-10000)) bs5)
 (.ask (.cmp .leq bs5 (.c 10000))
 (.ask (.cmp .leq (.c (-10000)) bs7)
 (.ask (.cmp .leq bs7 (.c 10000))
 (.ask (.cmp .leq (.c (-200000)) bs10)
 (.ask (.cmp .leq bs10 bs11)
 (.ask (.cmp .leq bs11 (.c 200000))
 (.ask (.cmp .leq (.c 0) bs22)
 (.ask (.cmp .eql bs25 (.c 0))
 (.ask (.cmp .leq (.c (-10000)) bs26)
 (.ask (.cmp .leq bs26 (.c 10000))
 (.ask (.cmp .leq (.c 0) bs30)
 (bsC0
 (.ask (.cmp .leq (.c 0) bs37)
 (bsC1
 (.ask (.cmp .leq bs49 (.c 1000))
 (.ask (.cmp .leq (.c 1) bs51)
 (.ask (.cmp .leq bs51 bs54)
 (.ask (.cmp .leq bs54 (.c 100000))
 (.ask (.cmp .eql bs58 (.c 0))
 .dead
 (.ask (.cmp .eql bs62 (.c 0))
 .dead
 (.ask (.cmp .eql bs64 (.c 0))
 (.ask (.cmp .eql bs66 (.c 100000))
 (.ask (.cmp .leq bs66 (.c 20000))
 .dead
 (.leaf (.c true)))
 .dead)
 .dead)))
 .dead)
 .dead)
 .dead)
 .dead))
 .dead))
 (bsC0
 (.ask (.cmp .leq (.c 0) bs37)
 (bsC1
 (.ask (.cmp .leq bs49 (.c 1000))
 (.ask (.cmp .leq (.c 1) bs51)
 (.ask (.cmp .leq bs51 bs54)
 (.ask (.cmp .leq bs54 (.c 100000))
 (.ask (.cmp .eql bs58 (.c 0))
 .dead
 (.ask (.cmp .eql bs62 (.c 0))
 .dead
 (.ask (.cmp .eql bs64 (.c 0))
 (.ask (.cmp .eql bs66 (.c 100000))
 (.ask (.cmp .leq bs67 bs66)
 (.ask (.cmp .leq bs66 (.c 20000))
 .dead
 (.leaf (.c true)))
 .dead)
 .dead)
 .dead)))
 .dead)
 .dead)
 .dead)
 .dead))
 .dead)))
 .dead)
 .dead)
 (.ask (.cmp .leq (.c (-10000)) bs26)
 (.ask (.cmp .leq bs26 (.c 10000))
 (.ask (.cmp .leq (.c 0) bs30)
 (bsC0
 (.ask (.cmp .leq (.c 0) bs37)
 (bsC2
 (.ask (.cmp .leq bs73 bs70)
 (bsC3
 (.ask (.cmp .leq bs49 (.c 1000))
 (bsC4
 (.ask (.cmp .leq bs77 (.c 100000))
 (.ask (.cmp .eql bs58 (.c 0))
 .dead
 (.ask (.cmp .eql bs62 (.c 0))
 .dead
 (.ask (.cmp .leq (.c 0) bs78)
 (.ask (.cmp .leq bs78 (.c 100000))
 (.ask (.cmp .eql bs64 (.c 0))
 (.ask (.cmp .eql bs81 bs77)
 (.ask (.cmp .leq bs84 bs81)
 (.ask (.cmp .leq bs81 (.c 20000))
 (.ask (.cmp .leq bs77 (.c 20000))
 (.leaf (.c true))
 .dead)
 (.ask (.cmp .leq bs77 (.c 20000))
 .dead
 (.leaf (.c true))))
 .dead)
 .dead)
 .dead)
 .dead)
 .dead)))
 .dead))
 .dead))
 .dead))
 .dead))
 (bsC0
 (.ask (.cmp .leq (.c 0) bs37)
 (bsC2
 (bsC3
 (.ask (.cmp .leq bs49 (.c 1000))
 (bsC4
 (.ask (.cmp .leq bs77 (.c 100000))
 (.ask (.cmp .eql bs58 (.c 0))
 .dead
 (.ask (.cmp .eql bs62 (.c 0))
 .dead
 (.ask (.cmp .eql bs64 (.c 0))
 (.ask (.cmp .eql bs81 bs77)
 (.ask (.cmp .leq bs67 bs81)
 (.ask (.cmp .leq bs81 (.c 20000))
 (.ask (.cmp .leq bs77 (.c 20000))
 (.leaf (.c true))
 .dead)
 .dead)
 .dead)
 .dead)
 .dead)))
 .dead))
 .dead)))
 .dead)))
 .dead)
 .dead))
 .dead)
 .dead)
 .dead)
 .dead)
 .dead)
 .dead)
 .dead)
 .dead)
 .dead)
 .dead)
 .dead)
end Go.Proofs.Ytknphpihipkdpaa.Cx
