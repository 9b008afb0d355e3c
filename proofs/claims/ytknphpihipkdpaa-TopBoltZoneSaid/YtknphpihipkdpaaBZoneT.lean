/- TopBoltZone: the tests of the law and their arithmetic. Made by tools/cxroot.py. -/
import Derived.Test.YtknphpihipkdpaaCxS
set_option linter.unusedSimpArgs false
set_option linter.unusedVariables false
set_option maxRecDepth 100000
set_option maxHeartbeats 4000000
namespace Go.Proofs.Ytknphpihipkdpaa.Cx
open Go Go.RowKit

def bz0 : IE := .bin .conv .i64 (.v 1) (.c 0)
def bz1 : IE := .bin .mul .i64 (.c 20) bz0
def bz2 : IE := .bin .conv .i64 (.v 2) (.c 0)
def bz3 : IE := .bin .mul .i64 (.c 30) bz2
def bz4 : IE := .bin .conv .i64 (.v 3) (.c 0)
def bz5 : IE := .bin .conv .i64 (.v 4) (.c 0)
def bz6 : IE := .bin .rem .i64 bz5 (.c 60)
def bz7 : IE := .bin .add .i64 bz4 bz6
def bz8 : IE := .bin .conv .i64 (.v 5) (.c 0)
def bz9 : IE := .bin .conv .i64 (.v 6) (.c 0)
def bz10 : IE := .bin .rem .i64 bz9 (.c 60)
def bz11 : IE := .bin .add .i64 bz8 bz10
def bz12 : IE := .bin .conv .i64 (.v 7) (.c 0)
def bz13 : IE := .bin .add .i64 (.c 1) bz12
def bz14 : IE := .bin .conv .i64 (.v 8) (.c 0)
def bz15 : IE := .bin .rem .i64 bz14 (.c 20)
def bz16 : IE := .bin .add .i64 bz13 bz15
def bz17 : IE := .bin .conv .i64 (.v 9) (.c 0)
def bz18 : IE := .bin .quo .i64 bz17 (.c 8)
def bz19 : IE := .bin .conv .i64 (.v 10) (.c 0)
def bz20 : IE := .bin .quo .i64 bz19 (.c 4)
def bz21 : IE := .bin .add .i64 bz18 bz20
def bz22 : IE := .bin .mul .i64 bz1 bz7
def bz23 : IE := .bin .mul .i64 bz3 bz11
def bz24 : IE := .bin .add .i64 bz22 bz23
def bz25 : IE := .bin .add .i64 bz24 (.c 300000)
def bz26 : IE := .bin .mul .i64 bz18 bz25
def bz27 : IE := .bin .quo .i64 bz26 (.c 1000)
def bz28 : IE := .bin .rem .i64 bz26 (.c 1000)
def bz29 : IE := .bin .mx .i64 (.c 0) bz28
def bz30 : IE := .bin .mn .i64 (.c 1) bz29
def bz31 : IE := .bin .add .i64 bz27 bz30
def bz32 : IE := .bin .mn .i64 bz21 (.c 20000)
def bz33 : IE := .bin .add .i64 bz32 (.c 1)
def bz34 : IE := .bin .mul .i64 bz1 bz4
def bz35 : IE := .bin .mul .i64 bz3 bz8
def bz36 : IE := .bin .add .i64 bz34 bz35
def bz37 : IE := .bin .add .i64 bz36 (.c 300000)
def bz38 : IE := .bin .mul .i64 bz33 bz37
def bz39 : IE := .bin .quo .i64 bz38 (.c 1000)
def bz40 : IE := .bin .rem .i64 bz38 (.c 1000)
def bz41 : IE := .bin .mx .i64 (.c 0) bz40
def bz42 : IE := .bin .mn .i64 (.c 1) bz41
def bz43 : IE := .bin .add .i64 bz39 bz42
def bz44 : IE := .bin .sub .i64 bz43 (.c 1)
def bz45 : IE := .bin .sub .i64 bz44 (.c 20)
def bz46 : IE := .bin .mn .i64 bz45 (.c 10000000000000)
def bz47 : IE := .bin .conv .i64 (.v 13) (.c 0)
def bz48 : IE := .bin .add .i64 (.c 90000) bz47
def bz49 : IE := .bin .conv .i64 (.v 11) (.c 0)
def bz50 : IE := .bin .rem .i64 bz49 (.c 9)
def bz51 : IE := .bin .conv .i64 (.v 12) (.c 0)
def bz52 : IE := .bin .rem .i64 bz51 (.c 5)
def bz53 : IE := .bin .add .i64 bz50 bz52
def bz54 : IE := .bin .mul .i64 bz50 (.c 7)
def bz55 : IE := .bin .sub .i64 (.c 0) bz54
def bz56 : IE := .bin .quo .i64 bz55 (.c 2)
def bz57 : IE := .bin .rem .i64 bz55 (.c 2)
def bz58 : IE := .bin .mx .i64 (.c 0) bz57
def bz59 : IE := .bin .mn .i64 (.c 1) bz58
def bz60 : IE := .bin .add .i64 bz56 bz59
def bz61 : IE := .bin .sub .i64 (.c 0) bz60
def bz62 : IE := .bin .sub .i64 (.c 90000) bz61
def bz63 : IE := .bin .mul .i64 bz53 (.c 7)
def bz64 : IE := .bin .quo .i64 bz63 (.c 2)
def bz65 : IE := .bin .rem .i64 bz63 (.c 2)
def bz66 : IE := .bin .mx .i64 (.c 0) bz65
def bz67 : IE := .bin .mn .i64 (.c 1) bz66
def bz68 : IE := .bin .add .i64 bz64 bz67
def bz69 : IE := .bin .sub .i64 bz48 bz68
def bz70 : IE := .bin .add .i64 bz62 bz61
def bz71 : IE := .bin .add .i64 bz69 bz68
def bz72 : IE := .bin .sub .i64 bz7 bz4
def bz73 : IE := .bin .quo .i64 bz72 (.c 2)
def bz74 : IE := .bin .add .i64 bz4 bz73
def bz75 : IE := .bin .mul .i64 bz1 bz74
def bz76 : IE := .bin .add .i64 bz75 bz23
def bz77 : IE := .bin .add .i64 bz76 (.c 300000)
def bz78 : IE := .bin .quo .i64 (.c 0) bz77
def bz79 : IE := .bin .add .i64 (.c 0) bz78
def bz80 : IE := .bin .quo .i64 (.c 20000) bz37
def bz81 : IE := .bin .add .i64 (.c 0) bz80
def bz82 : IE := .bin .sub .i64 bz46 (.c 20)
def bz83 : IE := .bin .mx .i64 (.c 0) bz82
def bz84 : IE := .bin .add .i64 bz46 (.c 20)
def bz85 : IE := .bin .mul .i64 (.c 1000) bz83
def bz86 : IE := .bin .quo .i64 bz85 bz77
def bz87 : IE := .bin .add .i64 (.c 0) bz86
def bz88 : IE := .bin .mul .i64 (.c 1000) bz84
def bz89 : IE := .bin .quo .i64 bz88 bz37
def bz90 : IE := .bin .add .i64 (.c 0) bz89
def bz91 : IE := .bin .mul .i64 bz18 bz77
def bz92 : IE := .bin .quo .i64 bz91 (.c 1000)
def bz93 : IE := .bin .rem .i64 bz91 (.c 1000)
def bz94 : IE := .bin .mx .i64 (.c 0) bz93
def bz95 : IE := .bin .mn .i64 (.c 1) bz94
def bz96 : IE := .bin .add .i64 bz92 bz95
def bz97 : IE := .bin .add .i64 bz75 bz35
def bz98 : IE := .bin .add .i64 bz97 (.c 300000)
def bz99 : IE := .bin .quo .i64 (.c 0) bz25
def bz100 : IE := .bin .add .i64 (.c 0) bz99
def bz101 : IE := .bin .quo .i64 (.c 20000) bz98
def bz102 : IE := .bin .add .i64 (.c 0) bz101
def bz103 : IE := .bin .quo .i64 bz85 bz25
def bz104 : IE := .bin .add .i64 (.c 0) bz103
def bz105 : IE := .bin .quo .i64 bz88 bz98
def bz106 : IE := .bin .add .i64 (.c 0) bz105
def bz107 : IE := .bin .mul .i64 bz33 bz98
def bz108 : IE := .bin .quo .i64 bz107 (.c 1000)
def bz109 : IE := .bin .rem .i64 bz107 (.c 1000)
def bz110 : IE := .bin .mx .i64 (.c 0) bz109
def bz111 : IE := .bin .mn .i64 (.c 1) bz110
def bz112 : IE := .bin .add .i64 bz108 bz111
def bz113 : IE := .bin .sub .i64 bz112 (.c 1)
def bz114 : IE := .bin .sub .i64 bz113 (.c 20)
def bz115 : IE := .bin .mn .i64 bz114 (.c 10000000000000)
def bz116 : IE := .bin .sub .i64 bz31 (.c (-20))
def bz117 : IE := .bin .mx .i64 bz116 (.c 0)
def bz118 : IE := .bin .sub .i64 bz117 (.c 20)
def bz119 : IE := .bin .mx .i64 (.c 0) bz118
def bz120 : IE := .bin .add .i64 bz117 (.c 20)
def bz121 : IE := .bin .mul .i64 (.c 1000) bz119
def bz122 : IE := .bin .quo .i64 bz121 bz77
def bz123 : IE := .bin .add .i64 (.c 0) bz122
def bz124 : IE := .bin .mul .i64 (.c 1000) bz120
def bz125 : IE := .bin .quo .i64 bz124 bz37
def bz126 : IE := .bin .add .i64 (.c 0) bz125
def bz127 : IE := .bin .sub .i64 bz96 (.c (-20))
def bz128 : IE := .bin .mx .i64 bz127 (.c 0)
def bz129 : IE := .bin .quo .i64 bz121 bz25
def bz130 : IE := .bin .add .i64 (.c 0) bz129
def bz131 : IE := .bin .quo .i64 bz124 bz98
def bz132 : IE := .bin .add .i64 (.c 0) bz131
def bzC0 (t : DT) : DT := (.ask (.cmp .leq (.c (-20000000)) bz62) (.ask (.cmp .leq bz69 (.c 20000000)) (.ask (.cmp .leq (.c 90000) bz70) (.ask (.cmp .leq bz71 bz48) t .dead) .dead) .dead) .dead)
def bzC1 (t : DT) : DT := (.ask (.cmp .leq bz4 bz74) (.ask (.cmp .leq bz74 (.c 1000)) (.ask (.cmp .eql bz77 (.c 0)) .dead (.ask (.cmp .eql bz37 (.c 0)) .dead t)) .dead) .dead)
def bzC2 (t : DT) : DT := (.ask (.cmp .leq bz81 bz21) (.ask (.cmp .leq (.c 0) bz83) (.ask (.cmp .leq bz83 bz84) t .dead) .dead) .dead)
def bzC3 (t : DT) : DT := (.ask (.cmp .leq (.c 0) bz74) (.ask (.cmp .leq bz74 bz7) (.ask (.cmp .eql bz25 (.c 0)) .dead t) .dead) .dead)
def bzC4 (t : DT) : DT := (.ask (.cmp .leq (.c 0) bz115) (.ask (.cmp .leq bz46 bz115) t .dead) .dead)
def bzC5 (t : DT) : DT := (.ask (.cmp .leq (.c 90000) bz48) (.ask (.cmp .leq bz48 (.c 20000000)) (.ask (.cmp .leq (.c 0) bz50) (.ask (.cmp .leq bz50 bz53) (.ask (.cmp .leq bz53 (.c 10000)) t .dead) .dead) .dead) .dead) .dead)
def bzC6 (t : DT) : DT := (.ask (.cmp .leq bz4 bz74) (.ask (.cmp .leq bz74 (.c 1000)) (.ask (.cmp .leq (.c 0) bz119) (.ask (.cmp .leq bz119 bz120) (.ask (.cmp .leq bz120 (.c 10000000000000)) t .dead) .dead) .dead) .dead) .dead)
def bzC7 (t : DT) : DT := (.ask (.cmp .eql bz77 (.c 0)) .dead (.ask (.cmp .eql bz37 (.c 0)) .dead t))
def bzC8 (t : DT) : DT := (.ask (.cmp .leq (.c 0) bz83) (.ask (.cmp .leq bz83 bz84) t .dead) .dead)
def bzC9 (t : DT) : DT := (.ask (.cmp .leq bz128 bz117) (.ask (.cmp .leq (.c 0) bz74) (.ask (.cmp .leq bz74 bz7) (.ask (.cmp .eql bz25 (.c 0)) .dead t) .dead) .dead) .dead)
def bzTree : DT :=
(.ask (.cmp .leq (.c 0) bz1)
 (.ask (.cmp .leq bz1 (.c 100000))
 (.ask (.cmp .leq (.c 0) bz3)
 (.ask (.cmp .leq bz3 (.c 100000))
 (.ask (.cmp .leq (.c 0) bz4)
 (.ask (.cmp .leq bz4 bz7)
 (.ask (.cmp .leq bz7 (.c 1000))
 (.ask (.cmp .leq (.c 0) bz8)
 (.ask (.cmp .leq bz8 bz11)
 (.ask (.cmp .leq bz11 (.c 1000))
 (.ask (.cmp .leq (.c 1) bz13)
 (.ask (.cmp .leq bz13 bz16)
 (.ask (.cmp .leq bz16 (.c 100000))
 (.ask (.cmp .leq (.c 0) bz18)
 (.ask (.cmp .leq bz18 bz21)
 (.ask (.cmp .leq bz21 (.c 100000000))
 (.ask (.cmp .leq bz31 (.c 0))
 (.ask (.cmp .leq (.c 0) bz46)
 (.ask (.cmp .leq (.c 90000) bz48)
 (.ask (.cmp .leq bz48 (.c 20000000))
 (.ask (.cmp .leq (.c 0) bz50)
 (.ask (.cmp .leq bz50 bz53)
 (.ask (.cmp .leq bz53 (.c 10000))
 (.ask (.cmp .leq bz62 bz69)
 (bzC0
 (bzC1
 (.ask (.cmp .leq bz18 bz79)
 (bzC2
 (.ask (.cmp .leq bz84 (.c 10000000000000))
 (.ask (.cmp .leq bz18 bz87)
 (.ask (.cmp .leq bz90 bz21)
 (.ask (.cmp .leq bz96 (.c 0))
 (bzC3
 (.ask (.cmp .eql bz98 (.c 0))
 .dead
 (.ask (.cmp .leq bz18 bz100)
 (.ask (.cmp .leq bz102 bz21)
 (.ask (.cmp .leq bz18 bz104)
 (.ask (.cmp .leq bz106 bz21)
 (bzC4
 (.leaf (.c true)))
 .dead)
 .dead)
 .dead)
 .dead)))
 .dead)
 .dead)
 .dead)
 .dead))
 .dead)))
 (bzC1
 (.ask (.cmp .leq bz18 bz79)
 (bzC2
 (.ask (.cmp .leq bz84 (.c 10000000000000))
 (.ask (.cmp .leq bz18 bz87)
 (.ask (.cmp .leq bz90 bz21)
 (.ask (.cmp .leq bz96 (.c 0))
 (bzC3
 (.ask (.cmp .eql bz98 (.c 0))
 .dead
 (.ask (.cmp .leq bz18 bz100)
 (.ask (.cmp .leq bz102 bz21)
 (.ask (.cmp .leq bz18 bz104)
 (.ask (.cmp .leq bz106 bz21)
 (bzC4
 (.leaf (.c true)))
 .dead)
 .dead)
 .dead)
 .dead)))
 .dead)
 .dead)
 .dead)
 .dead))
 .dead)))
 .dead)
 .dead)
 .dead)
 .dead)
 .dead)
 .dead)
 (.ask (.cmp .leq bz117 bz46)
 (bzC5
 (.ask (.cmp .leq bz62 bz69)
 (bzC0
 (bzC6
 (bzC7
 (.ask (.cmp .leq bz18 bz123)
 (.ask (.cmp .leq bz126 bz21)
 (bzC8
 (.ask (.cmp .leq bz84 (.c 10000000000000))
 (.ask (.cmp .leq bz18 bz87)
 (.ask (.cmp .leq bz90 bz21)
 (.ask (.cmp .leq bz96 (.c 0))
 .dead
 (.ask (.cmp .leq bz128 bz46)
 (bzC9
 (.ask (.cmp .eql bz98 (.c 0))
 .dead
 (.ask (.cmp .leq bz18 bz130)
 (.ask (.cmp .leq bz132 bz21)
 (.ask (.cmp .leq bz18 bz104)
 (.ask (.cmp .leq bz106 bz21)
 (.ask (.cmp .leq bz117 bz115)
 (.ask (.cmp .leq bz46 bz115)
 (.leaf (.c true))
 .dead)
 .dead)
 .dead)
 .dead)
 .dead)
 .dead)))
 .dead))
 .dead)
 .dead)
 .dead))
 .dead)
 .dead))))
 (bzC6
 (bzC7
 (.ask (.cmp .leq bz18 bz123)
 (.ask (.cmp .leq bz126 bz21)
 (bzC8
 (.ask (.cmp .leq bz84 (.c 10000000000000))
 (.ask (.cmp .leq bz18 bz87)
 (.ask (.cmp .leq bz90 bz21)
 (.ask (.cmp .leq bz96 (.c 0))
 .dead
 (.ask (.cmp .leq bz128 bz46)
 (bzC9
 (.ask (.cmp .eql bz98 (.c 0))
 .dead
 (.ask (.cmp .leq bz18 bz130)
 (.ask (.cmp .leq bz132 bz21)
 (.ask (.cmp .leq bz18 bz104)
 (.ask (.cmp .leq bz106 bz21)
 (.ask (.cmp .leq bz117 bz115)
 (.ask (.cmp .leq bz46 bz115)
 (.leaf (.c true))
 .dead)
 .dead)
 .dead)
 .dead)
 .dead)
 .dead)))
 .dead))
 .dead)
 .dead)
 .dead))
 .dead)
 .dead)))))
 (bzC5
 (.ask (.cmp .leq bz62 bz69)
 (bzC0
 (.leaf (.c true)))
 (.leaf (.c true))))))
 .dead)
 .dead)
 .dead)
 .dead)
 .dead)
 .dead)
 .dead)
 .dead)
 .dead)
 .dead)
 .dead)
 .dead)
 .dead)
 .dead)
 .dead)
 .dead)
end Go.Proofs.Ytknphpihipkdpaa.Cx
