/- TopGaugeSwap: the tests of the law and their arithmetic. Made by tools/cxroot.py. -/
import Derived.Test.YtmekghjgkkjgoaaCxS
set_option linter.unusedSimpArgs false
set_option linter.unusedVariables false
set_option maxRecDepth 100000
set_option maxHeartbeats 4000000
namespace Go.Proofs.Ytmekghjgkkjgoaa.Cx
open Go Go.RowKit

def gw0 : IE := .bin .conv .i64 (.v 4) (.c 0)
def gw1 : IE := .bin .add .i64 (.c 5000) gw0
def gw2 : IE := .bin .sub .i64 gw1 (.c 40)
def gw3 : IE := .bin .conv .i64 (.v 0) (.c 0)
def gw4 : IE := .bin .rem .i64 gw3 (.c 20)
def gw5 : IE := .bin .add .i64 gw2 gw4
def gw6 : IE := .bin .conv .i64 (.v 1) (.c 0)
def gw7 : IE := .bin .rem .i64 gw6 (.c 9)
def gw8 : IE := .bin .add .i64 (.c 1) gw7
def gw9 : IE := .bin .rem .i64 gw6 (.c 50)
def gw10 : IE := .bin .add .i64 (.c 10) gw9
def gw11 : IE := .bin .sub .i64 (.c 10000000) gw2
def gw12 : IE := .bin .sub .i64 (.c 10000000) gw5
def gw13 : IE := .bin .mn .i64 gw11 gw12
def gw14 : IE := .bin .mx .i64 gw11 gw12
def gw15 : IE := .bin .sub .i64 (.c 10000000) gw1
def gw16 : IE := .bin .sub .i64 gw13 gw15
def gw17 : IE := .bin .mul .i64 (.c 1000) gw16
def gw18 : IE := .bin .sub .i64 (.c 0) gw17
def gw19 : IE := .bin .quo .i64 gw18 gw10
def gw20 : IE := .bin .rem .i64 gw18 gw10
def gw21 : IE := .bin .mx .i64 (.c 0) gw20
def gw22 : IE := .bin .mn .i64 (.c 1) gw21
def gw23 : IE := .bin .add .i64 gw19 gw22
def gw24 : IE := .bin .sub .i64 (.c 0) gw23
def gw25 : IE := .bin .mn .i64 gw24 (.c 100000)
def gw26 : IE := .bin .add .i64 gw25 (.c 0)
def gw27 : IE := .bin .mul .i64 gw8 gw26
def gw28 : IE := .bin .sub .i64 (.c 0) gw27
def gw29 : IE := .bin .quo .i64 gw28 (.c 1000)
def gw30 : IE := .bin .rem .i64 gw28 (.c 1000)
def gw31 : IE := .bin .mx .i64 (.c 0) gw30
def gw32 : IE := .bin .mn .i64 (.c 1) gw31
def gw33 : IE := .bin .add .i64 gw29 gw32
def gw34 : IE := .bin .sub .i64 (.c 0) gw33
def gw35 : IE := .bin .sub .i64 gw14 gw34
def gw36 : IE := .bin .mn .i64 gw35 gw35
def gw37 : IE := .bin .mul .i64 gw10 gw26
def gw38 : IE := .bin .quo .i64 gw37 (.c 1000)
def gw39 : IE := .bin .rem .i64 gw37 (.c 1000)
def gw40 : IE := .bin .mx .i64 (.c 0) gw39
def gw41 : IE := .bin .mn .i64 (.c 1) gw40
def gw42 : IE := .bin .add .i64 gw38 gw41
def gw43 : IE := .bin .sub .i64 gw13 gw42
def gw44 : IE := .bin .add .i64 gw43 gw34
def gw45 : IE := .bin .mx .i64 gw13 gw44
def gw46 : IE := .bin .sub .i64 (.c 0) gw42
def gw47 : IE := .bin .sub .i64 gw36 gw46
def gw48 : IE := .bin .mn .i64 gw14 gw47
def gw49 : IE := .bin .add .i64 gw45 gw46
def gw50 : IE := .bin .mx .i64 gw43 gw49
def gw51 : IE := .bin .mul .i64 (.c 4) gw3
def gw52 : IE := .bin .add .i64 (.c 9000) gw51
def gw53 : IE := .bin .add .i64 (.c 400) gw6
def gw54 : IE := .bin .conv .i64 (.v 2) (.c 0)
def gw55 : IE := .bin .add .i64 (.c 400) gw54
def gw56 : IE := .bin .conv .i64 (.v 3) (.c 0)
def gw57 : IE := .bin .mul .i64 (.c 5) gw56
def gw58 : IE := .bin .add .i64 (.c 1) gw57
def gw59 : IE := .bin .add .i64 gw58 gw57
def gw60 : IE := .bin .mx .i64 gw58 gw57
def gw61 : IE := .bin .add .i64 gw53 gw55
def gw62 : IE := .bin .mul .i64 gw60 gw61
def gw63 : IE := .bin .mul .i64 (.c 500) gw52
def gw64 : IE := .bin .sub .i64 (.c 10000000) gw50
def gw65 : IE := .bin .sub .i64 (.c 10000000) gw36
def gw66 : IE := .bin .mx .i64 gw64 gw65
def gw67 : IE := .bin .sub .i64 gw66 (.c 5000)
def gw68 : IE := .bin .conv .i64 (.v 7) (.c 0)
def gw69 : IE := .bin .mul .i64 (.c 8) gw68
def gw70 : IE := .bin .sub .i64 gw69 (.c 1200)
def gw71 : IE := .bin .conv .i64 (.v 8) (.c 0)
def gw72 : IE := .bin .mul .i64 (.c 8) gw71
def gw73 : IE := .bin .add .i64 gw70 gw72
def gw74 : IE := .bin .sub .i64 gw52 gw52
def gw75 : IE := .bin .mul .i64 (.c 500) gw74
def gw76 : IE := .bin .mul .i64 gw0 gw61
def gw77 : IE := .bin .add .i64 gw75 gw76
def gw78 : IE := .bin .mul .i64 gw67 gw61
def gw79 : IE := .bin .sub .i64 gw77 gw78
def gw80 : IE := .bin .sub .i64 gw53 gw53
def gw81 : IE := .bin .mul .i64 gw70 gw80
def gw82 : IE := .bin .mul .i64 gw73 gw80
def gw83 : IE := .bin .mx .i64 gw81 gw82
def gw84 : IE := .bin .sub .i64 gw79 gw83
def gw85 : IE := .bin .sub .i64 gw55 gw55
def gw86 : IE := .bin .mul .i64 gw70 gw85
def gw87 : IE := .bin .mul .i64 gw73 gw85
def gw88 : IE := .bin .mx .i64 gw86 gw87
def gw89 : IE := .bin .sub .i64 gw84 gw88
def gw90 : IE := .bin .mx .i64 gw74 gw74
def gw91 : IE := .bin .mul .i64 (.c 1000) gw90
def gw92 : IE := .bin .conv .i64 (.v 5) (.c 0)
def gw93 : IE := .bin .rem .i64 gw92 (.c 30)
def gw94 : IE := .bin .add .i64 gw0 gw93
def gw95 : IE := .bin .sub .i64 gw94 gw0
def gw96 : IE := .bin .add .i64 gw95 (.c 1)
def gw97 : IE := .bin .conv .i64 (.v 6) (.c 0)
def gw98 : IE := .bin .sub .i64 gw67 gw97
def gw99 : IE := .bin .rem .i64 gw54 gw96
def gw100 : IE := .bin .add .i64 gw0 gw99
def gw101 : IE := .bin .mul .i64 gw100 gw61
def gw102 : IE := .bin .add .i64 gw75 gw101
def gw103 : IE := .bin .mul .i64 gw98 gw61
def gw104 : IE := .bin .sub .i64 gw102 gw103
def gw105 : IE := .bin .sub .i64 gw104 gw83
def gw106 : IE := .bin .sub .i64 gw105 gw88
def gw107 : IE := .bin .add .i64 gw25 (.c 1)
def gw108 : IE := .bin .mul .i64 gw8 gw107
def gw109 : IE := .bin .sub .i64 (.c 0) gw108
def gw110 : IE := .bin .quo .i64 gw109 (.c 1000)
def gw111 : IE := .bin .rem .i64 gw109 (.c 1000)
def gw112 : IE := .bin .mx .i64 (.c 0) gw111
def gw113 : IE := .bin .mn .i64 (.c 1) gw112
def gw114 : IE := .bin .add .i64 gw110 gw113
def gw115 : IE := .bin .sub .i64 (.c 0) gw114
def gw116 : IE := .bin .sub .i64 gw14 gw115
def gw117 : IE := .bin .mn .i64 gw116 gw116
def gw118 : IE := .bin .mul .i64 gw10 gw107
def gw119 : IE := .bin .quo .i64 gw118 (.c 1000)
def gw120 : IE := .bin .rem .i64 gw118 (.c 1000)
def gw121 : IE := .bin .mx .i64 (.c 0) gw120
def gw122 : IE := .bin .mn .i64 (.c 1) gw121
def gw123 : IE := .bin .add .i64 gw119 gw122
def gw124 : IE := .bin .sub .i64 gw13 gw123
def gw125 : IE := .bin .add .i64 gw124 gw115
def gw126 : IE := .bin .mx .i64 gw13 gw125
def gw127 : IE := .bin .sub .i64 (.c 0) gw123
def gw128 : IE := .bin .sub .i64 gw117 gw127
def gw129 : IE := .bin .mn .i64 gw14 gw128
def gw130 : IE := .bin .add .i64 gw126 gw127
def gw131 : IE := .bin .mx .i64 gw124 gw130
def gw132 : IE := .bin .sub .i64 (.c 10000000) gw131
def gw133 : IE := .bin .sub .i64 (.c 10000000) gw117
def gw134 : IE := .bin .mx .i64 gw132 gw133
def gw135 : IE := .bin .sub .i64 gw134 (.c 5000)
def gw136 : IE := .bin .mul .i64 gw135 gw61
def gw137 : IE := .bin .sub .i64 gw77 gw136
def gw138 : IE := .bin .sub .i64 gw137 gw83
def gw139 : IE := .bin .sub .i64 gw138 gw88
def gw140 : IE := .bin .sub .i64 gw135 gw97
def gw141 : IE := .bin .mul .i64 gw140 gw61
def gw142 : IE := .bin .sub .i64 gw102 gw141
def gw143 : IE := .bin .sub .i64 gw142 gw83
def gw144 : IE := .bin .sub .i64 gw143 gw88
def gwTree : DT :=
(.ask (.cmp .leq (.c 0) gw2)
 (.ask (.cmp .leq gw2 gw5)
 (.ask (.cmp .leq gw5 (.c 10000000))
 (.ask (.cmp .leq (.c 0) gw8)
 (.ask (.cmp .leq gw8 gw10)
 (.ask (.cmp .leq gw10 (.c 10000))
 (.ask (.cmp .leq (.c 0) gw1)
 (.ask (.cmp .leq gw1 (.c 10000000))
 (.ask (.cmp .leq gw13 gw14)
 (.ask (.cmp .leq (.c 0) gw16)
 (.ask (.cmp .eql gw10 (.c 0))
 .dead
 (.ask (.cmp .leq (.c 1) gw25)
 (.ask (.cmp .leq (.c 100000) gw25)
 .dead
 (.ask (.cmp .leq (.c 1) gw26)
 (.ask (.cmp .leq gw26 (.c 100000))
 (.ask (.cmp .leq gw35 gw36)
 (.ask (.cmp .leq gw45 gw13)
 (.ask (.cmp .leq gw14 gw48)
 (.ask (.cmp .leq gw50 gw43)
 (.ask (.cmp .leq gw45 gw48)
 (.ask (.cmp .leq gw50 gw36)
 (.ask (.cmp .leq (.c 100) gw52)
 (.ask (.cmp .leq gw52 (.c 200000))
 (.ask (.cmp .leq (.c 0) gw53)
 (.ask (.cmp .leq gw53 (.c 3000))
 (.ask (.cmp .leq (.c 0) gw55)
 (.ask (.cmp .leq gw55 (.c 3000))
 (.ask (.cmp .leq (.c 0) gw58)
 (.ask (.cmp .leq gw58 (.c 200000))
 (.ask (.cmp .leq (.c 0) gw57)
 (.ask (.cmp .leq gw57 (.c 200000))
 (.ask (.cmp .leq (.c 1) gw59)
 (.ask (.cmp .leq gw62 gw63)
 (.ask (.cmp .leq (.c (-10000)) gw67)
 (.ask (.cmp .leq gw67 (.c 10000))
 (.ask (.cmp .leq (.c (-10000)) gw0)
 (.ask (.cmp .leq gw0 (.c 10000))
 (.ask (.cmp .leq (.c (-200000)) gw70)
 (.ask (.cmp .leq gw70 gw73)
 (.ask (.cmp .leq gw73 (.c 200000))
 (.ask (.cmp .leq (.c 0) gw89)
 (.ask (.cmp .eql gw91 (.c 0))
 (.ask (.cmp .eql gw96 (.c 0))
 .dead
 (.ask (.cmp .leq (.c (-10000)) gw98)
 (.ask (.cmp .leq gw98 (.c 10000))
 (.ask (.cmp .leq (.c (-10000)) gw100)
 (.ask (.cmp .leq gw100 (.c 10000))
 (.ask (.cmp .leq (.c 0) gw106)
 (.ask (.cmp .leq (.c 1) gw107)
 (.ask (.cmp .leq gw107 (.c 100000))
 (.ask (.cmp .leq gw116 gw117)
 (.ask (.cmp .leq gw126 gw13)
 (.ask (.cmp .leq gw14 gw129)
 (.ask (.cmp .leq gw131 gw124)
 (.ask (.cmp .leq gw126 gw129)
 (.ask (.cmp .leq gw131 gw117)
 (.ask (.cmp .leq (.c (-10000)) gw135)
 (.ask (.cmp .leq gw135 (.c 10000))
 (.ask (.cmp .leq (.c 0) gw139)
 .dead
 (.ask (.cmp .leq (.c (-10000)) gw140)
 (.ask (.cmp .leq gw140 (.c 10000))
 (.ask (.cmp .leq (.c 0) gw144)
 (.leaf (.c true))
 (.leaf (.c true)))
 .dead)
 .dead))
 .dead)
 .dead)
 .dead)
 .dead)
 .dead)
 .dead)
 .dead)
 .dead)
 .dead)
 .dead)
 .dead)
 .dead)
 .dead)
 .dead)
 .dead))
 .dead)
 .dead)
 .dead)
 .dead)
 .dead)
 .dead)
 .dead)
 .dead)
 .dead)
 .dead)
 .dead)
 .dead)
 .dead)
 .dead)
 .dead)
 .dead)
 .dead)
 .dead)
 .dead)
 .dead)
 .dead)
 .dead)
 .dead)
 .dead)
 .dead)
 .dead)
 .dead)
 .dead)
 .dead))
 .dead))
 .dead)
 .dead)
 .dead)
 .dead)
 .dead)
 .dead)
 .dead)
 .dead)
 .dead)
 .dead)
end Go.Proofs.Ytmekghjgkkjgoaa.Cx
