/- BoltLearned. Made by tools/gen_blaw.py. -/
import Derived.Test.YtknphpihipkdpaaCxS
set_option linter.unusedSimpArgs false
set_option linter.unusedVariables false
set_option maxRecDepth 100000
set_option maxHeartbeats 4000000
namespace Go.Proofs.Ytknphpihipkdpaa.Cx
open Go Go.RowKit

def bd0 : IE := .bin .rem .u8 (.v 13) (.c 3)
def bd1 : IE := .bin .conv .i64 (.v 0) (.c 0)
def bd2 : IE := .bin .mul .i64 (.c 10) bd1
def bd3 : IE := .bin .add .i64 (.c 1) bd2
def bd4 : IE := .bin .mul .i64 (.c 1000) bd3
def bd5 : IE := .bin .conv .i64 (.v 1) (.c 0)
def bd6 : IE := .bin .mul .i64 (.c 20) bd5
def bd7 : IE := .bin .conv .i64 (.v 3) (.c 0)
def bd8 : IE := .bin .conv .i64 (.v 18) (.c 0)
def bd9 : IE := .bin .conv .i64 (.v 4) (.c 0)
def bd10 : IE := .bin .rem .i64 bd9 (.c 60)
def bd11 : IE := .bin .add .i64 bd7 bd10
def bd12 : IE := .bin .sub .i64 bd11 bd7
def bd13 : IE := .bin .mul .i64 bd8 bd12
def bd14 : IE := .bin .quo .i64 bd13 (.c 255)
def bd15 : IE := .bin .add .i64 bd7 bd14
def bd16 : IE := .bin .mul .i64 bd6 bd15
def bd17 : IE := .bin .add .i64 bd4 bd16
def bd18 : IE := .bin .conv .i64 (.v 2) (.c 0)
def bd19 : IE := .bin .mul .i64 (.c 30) bd18
def bd20 : IE := .bin .conv .i64 (.v 5) (.c 0)
def bd21 : IE := .bin .conv .i64 (.v 19) (.c 0)
def bd22 : IE := .bin .conv .i64 (.v 6) (.c 0)
def bd23 : IE := .bin .rem .i64 bd22 (.c 60)
def bd24 : IE := .bin .add .i64 bd20 bd23
def bd25 : IE := .bin .sub .i64 bd24 bd20
def bd26 : IE := .bin .mul .i64 bd21 bd25
def bd27 : IE := .bin .quo .i64 bd26 (.c 255)
def bd28 : IE := .bin .add .i64 bd20 bd27
def bd29 : IE := .bin .mul .i64 bd19 bd28
def bd30 : IE := .bin .add .i64 bd17 bd29
def bd31 : IE := .bin .conv .i64 (.v 7) (.c 0)
def bd32 : IE := .bin .mul .i64 (.c 100) bd31
def bd33 : IE := .bin .add .i64 (.c 1) bd32
def bd34 : IE := .bin .conv .i64 (.v 8) (.c 0)
def bd35 : IE := .bin .mul .i64 (.c 10) bd34
def bd36 : IE := .bin .add .i64 bd33 bd35
def bd37 : IE := .bin .conv .i64 (.v 9) (.c 0)
def bd38 : IE := .bin .add .i64 (.c 1) bd37
def bd39 : IE := .bin .conv .i64 (.v 10) (.c 0)
def bd40 : IE := .bin .rem .i64 bd39 (.c 20)
def bd41 : IE := .bin .add .i64 bd38 bd40
def bd42 : IE := .bin .conv .i64 (.v 11) (.c 0)
def bd43 : IE := .bin .mul .i64 (.c 100) bd42
def bd44 : IE := .bin .add .i64 (.c 1) bd43
def bd45 : IE := .bin .conv .i64 (.v 12) (.c 0)
def bd46 : IE := .bin .mul .i64 (.c 10) bd45
def bd47 : IE := .bin .add .i64 bd44 bd46
def bd48 : IE := .bin .conv .i64 (.v 14) (.c 0)
def bd49 : IE := .bin .mul .i64 (.c 500) bd48
def bd50 : IE := .bin .conv .i64 (.v 15) (.c 0)
def bd51 : IE := .bin .add .i64 bd49 bd50
def bd52 : IE := .bin .mul .i64 bd6 bd11
def bd53 : IE := .bin .mul .i64 bd19 bd24
def bd54 : IE := .bin .add .i64 bd52 bd53
def bd55 : IE := .bin .add .i64 bd54 bd4
def bd56 : IE := .bin .mul .i64 bd6 bd7
def bd57 : IE := .bin .mul .i64 bd19 bd20
def bd58 : IE := .bin .add .i64 bd56 bd57
def bd59 : IE := .bin .add .i64 bd58 bd4
def bd60 : IE := .bin .mul .i64 bd6 (.v 29)
def bd61 : IE := .bin .mul .i64 bd19 (.v 31)
def bd62 : IE := .bin .add .i64 bd60 bd61
def bd63 : IE := .bin .add .i64 bd62 bd4
def bd64 : IE := .bin .mul .i64 bd6 (.v 28)
def bd65 : IE := .bin .mul .i64 bd19 (.v 30)
def bd66 : IE := .bin .add .i64 bd64 bd65
def bd67 : IE := .bin .add .i64 bd66 bd4
def bd68 : IE := .bin .mul .i64 (.c 1000) bd49
def bd69 : IE := .bin .quo .i64 bd68 bd55
def bd70 : IE := .bin .add .i64 (.c 0) bd69
def bd71 : IE := .bin .quo .i64 bd68 bd63
def bd72 : IE := .bin .add .i64 (.c 0) bd71
def bd73 : IE := .bin .mul .i64 (.c 1000) bd51
def bd74 : IE := .bin .quo .i64 bd73 bd67
def bd75 : IE := .bin .add .i64 (.c 0) bd74
def bd76 : IE := .bin .quo .i64 bd73 bd59
def bd77 : IE := .bin .add .i64 (.c 0) bd76
def bd78 : IE := .bin .conv .i64 (.v 20) (.c 0)
def bd79 : IE := .bin .sub .i64 bd51 bd49
def bd80 : IE := .bin .mul .i64 bd78 bd79
def bd81 : IE := .bin .quo .i64 bd80 (.c 255)
def bd82 : IE := .bin .add .i64 bd49 bd81
def bd83 : IE := .bin .mul .i64 (.c 1000) bd82
def bd84 : IE := .bin .quo .i64 bd83 bd30
def bd85 : IE := .bin .mul .i64 bd6 (.v 34)
def bd86 : IE := .bin .mul .i64 bd19 (.v 36)
def bd87 : IE := .bin .add .i64 bd85 bd86
def bd88 : IE := .bin .add .i64 bd87 bd4
def bd89 : IE := .bin .mul .i64 bd6 (.v 33)
def bd90 : IE := .bin .mul .i64 bd19 (.v 35)
def bd91 : IE := .bin .add .i64 bd89 bd90
def bd92 : IE := .bin .add .i64 bd91 bd4
def bd93 : IE := .bin .quo .i64 (.c 0) bd55
def bd94 : IE := .bin .add .i64 (.c 0) bd93
def bd95 : IE := .bin .quo .i64 (.c 0) bd88
def bd96 : IE := .bin .add .i64 (.c 0) bd95
def bd97 : IE := .bin .quo .i64 (.c 0) bd92
def bd98 : IE := .bin .add .i64 (.c 0) bd97
def bd99 : IE := .bin .quo .i64 (.c 0) bd59
def bd100 : IE := .bin .add .i64 (.c 0) bd99
def bd101 : IE := .bin .mul .i64 bd78 (.c 0)
def bd102 : IE := .bin .quo .i64 bd101 (.c 255)
def bd103 : IE := .bin .add .i64 (.c 0) bd102
def bd104 : IE := .bin .mul .i64 (.c 1000) bd103
def bd105 : IE := .bin .quo .i64 bd104 bd30
def bd106 : IE := .bin .conv .i64 (.v 26) (.c 0)
def bd107 : IE := .bin .sub .i64 bd84 bd106
def bd108 : IE := .bin .mx .i64 (.c 0) bd107
def bd109 : IE := .bin .conv .i64 (.v 27) (.c 0)
def bd110 : IE := .bin .add .i64 bd84 bd109
def bd111 : IE := .bin .sub .i64 bd105 bd106
def bd112 : IE := .bin .mx .i64 (.c 0) bd111
def bd113 : IE := .bin .add .i64 bd105 bd109
def bdTree : DT :=
(.ask (.cmp .eql bd0 (.c 0))
 (.ask (.cmp .eql bd30 (.c 0))
 .dead
 (.ask (.cmp .eql (.v 32) (.c 0))
 (.ask (.cmp .leq (.v 28) bd15)
 (.ask (.cmp .leq bd15 (.v 29))
 (.ask (.cmp .leq (.v 30) bd28)
 (.ask (.cmp .leq bd28 (.v 31))
 (.ask (.cmp .leq bd7 (.v 28))
 (.ask (.cmp .leq (.v 29) bd11)
 (.ask (.cmp .leq bd20 (.v 30))
 (.ask (.cmp .leq (.v 31) bd24)
 (.ask (.cmp .leq bd3 (.c 0))
 .dead
 (.ask (.cmp .leq (.c 0) bd3)
 (.ask (.cmp .leq bd3 (.c 100000))
 (.ask (.cmp .leq (.c 0) bd6)
 (.ask (.cmp .leq bd6 (.c 100000))
 (.ask (.cmp .leq (.c 0) bd19)
 (.ask (.cmp .leq bd19 (.c 100000))
 (.ask (.cmp .leq (.c 0) bd7)
 (.ask (.cmp .leq bd7 bd11)
 (.ask (.cmp .leq bd11 (.c 1000))
 (.ask (.cmp .leq (.c 0) bd20)
 (.ask (.cmp .leq bd20 bd24)
 (.ask (.cmp .leq bd24 (.c 1000))
 (.ask (.cmp .leq (.c 1) bd33)
 (.ask (.cmp .leq bd33 bd36)
 (.ask (.cmp .leq bd36 (.c 100000000))
 (.ask (.cmp .leq (.c 1) bd38)
 (.ask (.cmp .leq bd38 bd41)
 (.ask (.cmp .leq bd41 (.c 100000))
 (.ask (.cmp .leq (.c 1) bd44)
 (.ask (.cmp .leq bd44 bd47)
 (.ask (.cmp .leq bd47 (.c 100000000))
 (.ask (.cmp .leq (.c 0) bd49)
 (.ask (.cmp .leq bd49 bd51)
 (.ask (.cmp .leq bd51 (.c 10000000000000))
 (.ask (.cmp .eql bd55 (.c 0))
 .dead
 (.ask (.cmp .eql bd59 (.c 0))
 .dead
 (.ask (.cmp .leq (.c 0) (.v 28))
 (.ask (.cmp .leq (.v 28) (.v 29))
 (.ask (.cmp .leq (.v 29) (.c 1000))
 (.ask (.cmp .leq (.c 0) (.v 30))
 (.ask (.cmp .leq (.v 30) (.v 31))
 (.ask (.cmp .leq (.v 31) (.c 1000))
 (.ask (.cmp .eql bd63 (.c 0))
 .dead
 (.ask (.cmp .eql bd67 (.c 0))
 .dead
 (.ask (.cmp .leq bd70 bd72)
 (.ask (.cmp .leq bd75 bd77)
 (.ask (.cmp .leq bd72 bd84)
 (.ask (.cmp .leq bd84 bd75)
 (.leaf (.c true))
 .dead)
 .dead)
 .dead)
 .dead)))
 .dead)
 .dead)
 .dead)
 .dead)
 .dead)
 .dead)))
 .dead)
 .dead)
 .dead)
 .dead)
 .dead)
 .dead)
 .dead)
 .dead)
 .dead)
 .dead)
 .dead)
 .dead)
 .dead)
 .dead)
 .dead)
 .dead)
 .dead)
 .dead)
 .dead)
 .dead)
 .dead)
 .dead)
 .dead)
 .dead))
 .dead)
 .dead)
 .dead)
 .dead)
 .dead)
 .dead)
 .dead)
 .dead)
 .dead))
 (.ask (.cmp .eql bd0 (.c 1))
 (.ask (.cmp .eql bd30 (.c 0))
 .dead
 (.ask (.cmp .eql (.v 32) (.c 0))
 (.ask (.cmp .leq (.v 28) bd15)
 (.ask (.cmp .leq bd15 (.v 29))
 (.ask (.cmp .leq (.v 30) bd28)
 (.ask (.cmp .leq bd28 (.v 31))
 (.ask (.cmp .leq bd7 (.v 28))
 (.ask (.cmp .leq (.v 29) bd11)
 (.ask (.cmp .leq bd20 (.v 30))
 (.ask (.cmp .leq (.v 31) bd24)
 (.ask (.cmp .leq bd3 (.c 0))
 .dead
 (.ask (.cmp .leq (.c 0) bd3)
 (.ask (.cmp .leq bd3 (.c 100000))
 (.ask (.cmp .leq (.c 0) bd6)
 (.ask (.cmp .leq bd6 (.c 100000))
 (.ask (.cmp .leq (.c 0) bd19)
 (.ask (.cmp .leq bd19 (.c 100000))
 (.ask (.cmp .leq (.c 0) bd7)
 (.ask (.cmp .leq bd7 bd11)
 (.ask (.cmp .leq bd11 (.c 1000))
 (.ask (.cmp .leq (.c 0) bd20)
 (.ask (.cmp .leq bd20 bd24)
 (.ask (.cmp .leq bd24 (.c 1000))
 (.ask (.cmp .leq (.c 1) bd33)
 (.ask (.cmp .leq bd33 bd36)
 (.ask (.cmp .leq bd36 (.c 100000000))
 (.ask (.cmp .leq (.c 1) bd38)
 (.ask (.cmp .leq bd38 bd41)
 (.ask (.cmp .leq bd41 (.c 100000))
 (.ask (.cmp .leq (.c 1) bd44)
 (.ask (.cmp .leq bd44 bd47)
 (.ask (.cmp .leq bd47 (.c 100000000))
 (.ask (.cmp .leq (.c 0) bd49)
 (.ask (.cmp .leq bd49 bd51)
 (.ask (.cmp .leq bd51 (.c 10000000000000))
 (.ask (.cmp .eql bd55 (.c 0))
 .dead
 (.ask (.cmp .eql bd59 (.c 0))
 .dead
 (.ask (.cmp .leq (.c 0) (.v 28))
 (.ask (.cmp .leq (.v 28) (.v 29))
 (.ask (.cmp .leq (.v 29) (.c 1000))
 (.ask (.cmp .leq (.c 0) (.v 30))
 (.ask (.cmp .leq (.v 30) (.v 31))
 (.ask (.cmp .leq (.v 31) (.c 1000))
 (.ask (.cmp .eql bd63 (.c 0))
 .dead
 (.ask (.cmp .eql bd67 (.c 0))
 .dead
 (.ask (.cmp .leq bd70 bd72)
 (.ask (.cmp .leq bd75 bd77)
 (.ask (.cmp .leq bd72 bd84)
 (.ask (.cmp .leq bd84 bd75)
 (.leaf (.c true))
 .dead)
 .dead)
 .dead)
 .dead)))
 .dead)
 .dead)
 .dead)
 .dead)
 .dead)
 .dead)))
 .dead)
 .dead)
 .dead)
 .dead)
 .dead)
 .dead)
 .dead)
 .dead)
 .dead)
 .dead)
 .dead)
 .dead)
 .dead)
 .dead)
 .dead)
 .dead)
 .dead)
 .dead)
 .dead)
 .dead)
 .dead)
 .dead)
 .dead)
 .dead))
 .dead)
 .dead)
 .dead)
 .dead)
 .dead)
 .dead)
 .dead)
 .dead)
 .dead))
 (.ask (.cmp .eql bd30 (.c 0))
 .dead
 (.ask (.cmp .eql (.v 37) (.c 0))
 (.ask (.cmp .leq (.v 33) bd15)
 (.ask (.cmp .leq bd15 (.v 34))
 (.ask (.cmp .leq (.v 35) bd28)
 (.ask (.cmp .leq bd28 (.v 36))
 (.ask (.cmp .leq bd7 (.v 33))
 (.ask (.cmp .leq (.v 34) bd11)
 (.ask (.cmp .leq bd20 (.v 35))
 (.ask (.cmp .leq (.v 36) bd24)
 (.ask (.cmp .leq bd3 (.c 0))
 .dead
 (.ask (.cmp .leq (.c 0) bd3)
 (.ask (.cmp .leq bd3 (.c 100000))
 (.ask (.cmp .leq (.c 0) bd6)
 (.ask (.cmp .leq bd6 (.c 100000))
 (.ask (.cmp .leq (.c 0) bd19)
 (.ask (.cmp .leq bd19 (.c 100000))
 (.ask (.cmp .leq (.c 0) bd7)
 (.ask (.cmp .leq bd7 bd11)
 (.ask (.cmp .leq bd11 (.c 1000))
 (.ask (.cmp .leq (.c 0) bd20)
 (.ask (.cmp .leq bd20 bd24)
 (.ask (.cmp .leq bd24 (.c 1000))
 (.ask (.cmp .leq (.c 1) bd33)
 (.ask (.cmp .leq bd33 bd36)
 (.ask (.cmp .leq bd36 (.c 100000000))
 (.ask (.cmp .leq (.c 1) bd38)
 (.ask (.cmp .leq bd38 bd41)
 (.ask (.cmp .leq bd41 (.c 100000))
 (.ask (.cmp .leq (.c 1) bd44)
 (.ask (.cmp .leq bd44 bd47)
 (.ask (.cmp .leq bd47 (.c 100000000))
 (.ask (.cmp .eql bd55 (.c 0))
 .dead
 (.ask (.cmp .eql bd59 (.c 0))
 .dead
 (.ask (.cmp .leq (.c 0) (.v 33))
 (.ask (.cmp .leq (.v 33) (.v 34))
 (.ask (.cmp .leq (.v 34) (.c 1000))
 (.ask (.cmp .leq (.c 0) (.v 35))
 (.ask (.cmp .leq (.v 35) (.v 36))
 (.ask (.cmp .leq (.v 36) (.c 1000))
 (.ask (.cmp .eql bd88 (.c 0))
 .dead
 (.ask (.cmp .eql bd92 (.c 0))
 .dead
 (.ask (.cmp .leq bd94 bd96)
 (.ask (.cmp .leq bd98 bd100)
 (.ask (.cmp .leq bd96 bd105)
 (.ask (.cmp .leq bd105 bd98)
 (.leaf (.c true))
 .dead)
 .dead)
 .dead)
 .dead)))
 .dead)
 .dead)
 .dead)
 .dead)
 .dead)
 .dead)))
 .dead)
 .dead)
 .dead)
 .dead)
 .dead)
 .dead)
 .dead)
 .dead)
 .dead)
 .dead)
 .dead)
 .dead)
 .dead)
 .dead)
 .dead)
 .dead)
 .dead)
 .dead)
 .dead)
 .dead)
 .dead))
 .dead)
 .dead)
 .dead)
 .dead)
 .dead)
 .dead)
 .dead)
 .dead)
 .dead))))
end Go.Proofs.Ytknphpihipkdpaa.Cx
